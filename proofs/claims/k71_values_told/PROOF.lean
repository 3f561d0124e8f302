import PyProof.Rows.All
import Wide.All
import OpenK.AllK
import Wide.FinOn
import Lean
import PyProof.EqAt
import PyProof.EqKinds
import PyProof.TupleCall
import PySem.Challenge.RW_lodge_k71_values_told
set_option Elab.async false
set_option linter.all false
set_option maxRecDepth 100000
set_option genSizeOf false
namespace PySem.W.Fast
def tw15419540839159479991 := 0
def tw18069758896956726485 := 0
def tw8148766109277499663 := 0
def tw2597425365624762016 := 0
def tw13471643902000789040 := 0
def tw16589352844247215469 := 0
def tw12012347245253275120 := 0
def tw3314872580245346266 := 0
def tw15325801901908516270 := 0
def tw1847033142470521905 := 0
def tw3060769213607339242 := 0
def tw8358990511967174015 := 0
def tw6957188186704001806 := 0
def tw16504744641117124911 := 0
def tw10552368715306742849 := 0
def tw5590506651653736222 := 0
def tw3840756266726726023 := 0
def tw12925028639559803477 := 0
def tw467939228049365653 := 0
def tw15671779562086789332 := 0
def tw8385631384148434288 := 0
def tw4871219968998577363 := 0
def tw14187657696916232418 := 0
def tw11776004196286675248 := 0
def tw2348365571938134400 := 0
def tw18223508822680514493 := 0
def tw17458073278182286068 := 0
def tw3588016402705039136 := 0
def tw11322153751221400504 := 0
def tw1631267009102409014 := 0
end PySem.W.Fast
noncomputable section
open PySem.W (Frag InitBack InstAt KdlKeysView Looks any_some bind_fn callWith_K callWith_K0 cellsFrom_some check_slot clsIn codeIn codeRec_of emptyDict eq_bytes exmOne exm_one findCls findIn findObj_own fnOf get_value handedIn hasDictIn hideAll hideAll_get hideAll_none hideAll_size instObj isFn kcp_self kdl_call kdl_dict kdl_keys kdl_meets_keys keepIn keq_ne kia_one kitOne kitx_bool kitx_int kitx_list kitx_none kitx_str kitx_tuple kun_itemsOf lookIn looks_clsIn looks_findIn looks_mroIn make_core makesIn makes_of methodCall_KW methodObj method_fn mg_none_of mg_of mroIn ne_bytes nsIn of_hideAll osa_eq osa_open plainGet plainGet_of plainOver readsIn set_plain specialIn takerIn takesIn truthy_bytes typeIn)
local macro_rules
 | `(tactic| rfl') => `(tactic| kernel_rfl)
local macro_rules
 | `(tactic| simp_arith [$xs,*] $[$l:location]?) => `(tactic| simp only [Nat.reduceAdd, Nat.reduceSub, Nat.reduceLeDiff, ↓reduceIte, reduceCtorEq, $xs,*] $[$l:location]?)
namespace L2
open PySem PySem.Spec PyProof.Rows
abbrev Af:=Sum Int Str
def ay_0:Af->Value->Bool
 | .inl k,v=>Value.isInt k v
 | .inr x,v=>Value.isStrOf x v
def keyH(w:World):Af->Int
 | .inl k=>hashInt k
 | .inr x=>hashStr w x
theorem g_1:∀{k:Af} {v:Value},ay_0 k v=true->(∃i t,k=Sum.inl i/\v=Value.int i t)\/(∃x t,k=Sum.inr x/\v=Value.str x t)
 | .inl i,v,h=>by
  obtain⟨t,e⟩:=Value.isInt_shape (k:=i) (v:=v) h;exact .inl ⟨i,t,rfl,e⟩
 | .inr x,v,h=>by
  obtain⟨t,e⟩:=Value.isStrOf_shape (x:=x) (v:=v) h;exact .inr ⟨x,t,rfl,e⟩
theorem cd_0(i:Int)(t:Tok):ay_0 (.inl i) (.int i t)=true:=by simp [ay_0,Value.isInt]
theorem cd_1(x:Str)(t:Tok):ay_0 (.inr x) (.str x t)=true:=by simp [ay_0,Value.isStrOf]
theorem dg_5(a b:Int):decide ((Sum.inl a:Af)=Sum.inl b)=(a ==b):=by
 by_cases e:a=b
 ·subst e;simp
 ·have h:¬(Sum.inl a:Af)=Sum.inl b:=λq=>e (Sum.inl.inj q);rw [decide_eq_false h];exact(beq_eq_false_iff_ne.mpr e).symm
theorem dg_6(a b:Str):decide ((Sum.inr a:Af)=Sum.inr b)=decide (a=b):=by
 by_cases e:a=b
 ·subst e;simp
 ·have h:¬(Sum.inr a:Af)=Sum.inr b:=λq=>e (Sum.inr.inj q);rw [decide_eq_false h,decide_eq_false e]
theorem dg_7(a:Int)(b:Str):decide ((Sum.inl a:Af)=Sum.inr b)=false:=decide_eq_false (λq=>nomatch q)
theorem dg_8(a:Str)(b:Int):decide ((Sum.inr a:Af)=Sum.inl b)=false:=decide_eq_false (λq=>nomatch q)
def Di(prog:Program)(w:World):PySem.KeyKind prog w Af where
 is:=ay_0
 hash:=keyH w
 inj:=λv a b ha hb=>by
  rcases g_1 ha with⟨i,t,rfl,rfl⟩|⟨x,t,rfl,rfl⟩
  ·rcases g_1 hb with⟨j,u,rfl,e⟩|⟨y,u,rfl,e⟩
   ·injection e with e1 _;rw [e1]
   ·exact nomatch e
  ·rcases g_1 hb with⟨j,u,rfl,e⟩|⟨y,u,rfl,e⟩
   ·exact nomatch e
   ·injection e with e1 _;rw [e1]
 byValue:=λk v h=>by
  rcases g_1 h with⟨i,t,rfl,rfl⟩|⟨x,t,rfl,rfl⟩ <;> rfl
 pyHash:=λhv h=>by
  rcases g_1 hv with⟨i,t,rfl,rfl⟩|⟨x,t,rfl,rfl⟩
  ·exact wpAny_pyHash_int h
  ·exact wpAny_pyHash_str h
 eqBool:=λhu hv h=>by
  rcases g_1 hu with⟨i,t,rfl,rfl⟩|⟨x,t,rfl,rfl⟩
  ·rcases g_1 hv with⟨j,u,rfl,rfl⟩|⟨y,u,rfl,rfl⟩
   ·rw [dg_5] at h;exact wpAny_eqBool_int h
   ·rw [dg_7] at h;exact SeqAt.EqAt.int_str i t y u _ _ _ _ h
  ·rcases g_1 hv with⟨j,u,rfl,rfl⟩|⟨y,u,rfl,rfl⟩
   ·rw [dg_8] at h;exact SeqAt.EqAt.str_int x t j u _ _ _ _ h
   ·rw [dg_6] at h;exact wpAny_eqBool_str h
 «strs»:=λk x t v h=>by
  rcases g_1 h with⟨i,u,rfl,e⟩|⟨y,u,rfl,e⟩
  ·exact nomatch e
  ·injection e with e1 _
   subst e1;cases v <;> rfl
theorem bi_2(prog:Program)(w:World)(i:Int)(t:Tok):(Di prog w).is (.inl i) (.int i t)=true:=cd_0 i t
theorem bi_3(prog:Program)(w:World)(x:Str)(t:Tok):(Di prog w).is (.inr x) (.str x t)=true:=cd_1 x t
inductive V where
 |non|bl (b:Bool)|int (i:Int)|str (x:Str)|byt (b:Array UInt8)|flt (b:UInt64)|ref (a:Addr)|ty (n:String)
 deriving DecidableEq
def RelV:V->Value->Prop
 | .non,u=>u=Value.none
 | .bl b,u=>u=Value.bool b
 | .int i,u=>∃t,u=Value.int i t
 | .str x,u=>∃t,u=Value.str x t
 | .byt b,u=>∃t,u=Value.bytes b t
 | .flt b,u=>∃t,u=Value.float b t
 | .ref a,u=>u=Value.ref a
 | .ty n,u=>u=Value.type n
abbrev Vals:List V->List Value->Prop:=Paired RelV
theorem Vals.length{xs:List V}{us:List Value}(r:Vals xs us):xs.length=us.length:=Paired.length r
theorem Vals.get:∀{xs:List V} {us:List Value} {i:Nat} {x:V},Vals xs us->xs[i]? =some x->∃u,us[i]? =some u/\RelV x u
 |_,_,_,_,.nil,e=>by simp at e
 |_,_,0,_,.cons r _,e=>by simp at e;subst e;exact⟨_,rfl,r⟩
 |_,_,i + 1,x,.cons _ t,e=>by
  obtain⟨u,h1,h2⟩:=Vals.get (i:=i) (x:=x) t (by simpa using e);exact⟨u,by simpa using h1,h2⟩
theorem Vals.set{x:V}{u:Value}(r:RelV x u):∀{xs:List V} {us:List Value} (i:Nat),Vals xs us->Vals (xs.set i x) (us.set i u)
 |_,_,_,.nil=> .nil
 |_,_,0,.cons _ t=> .cons r t
 |_,_,i + 1,.cons q t=> .cons q (Vals.set r i t)
theorem Vals.append:∀{xs ys:List V} {us ws:List Value},Vals xs us->Vals ys ws->Vals (xs ++ ys) (us ++ ws)
 |_,_,_,_,.nil,s=>s
 |_,_,_,_,.cons r t,s=> .cons r (Vals.append t s)
theorem Vals.take:∀{xs:List V} {us:List Value} (n:Nat),Vals xs us->Vals (xs.take n) (us.take n)
 |_,_,0,_=> .nil
 |_,_,_ + 1,.nil=> .nil
 |_,_,n + 1,.cons r t=> .cons r (Vals.take n t)
def RelO:Option V->Option Value->Prop
 |some v,some u=>RelV v u
 |none,none=>True
 |_,_=>False
def KV{κ:Type}:List (κ×V)->List (κ×Value)->Prop:=Paired λ(p:κ×V) (q:κ×Value)=>p.1=q.1/\RelV p.2 q.2
def kV:Af->V
 | .inl i=> .int i
 | .inr x=> .str x
inductive HO where
  |lst (xs:List V)
  |tup (xs:List V)
  |dK (kvs:List (Af×V))|dT (kvs:List (List Af×V))
  |set (S:Int->Bool) (n:Nat)
  |ins (C dx:Addr) (fs:List (Str×V))
  |own (x:Addr)
  |xd (fs:List (Str×V))
  |met (f x:Addr)
  |rng (lo hi:Int)
  |frz (o:Obj) (u:HO)
  |tbl (ps:Array Value)
  |ext (φ:Heap->Prop)
abbrev Hp:=Addr->Option HO
def upd(H:Hp)(a:Addr)(o:HO):Hp:=λb=>if b=a then some o else H b
theorem Ba{H:Hp}{a:Addr}{o:HO}:upd H a o a=some o:=by unfold upd;rw [if_pos rfl]
theorem An{H:Hp}{a b:Addr}{o:HO}(h:b≠a):upd H a o b=H b:=by unfold upd;rw [if_neg h]
theorem do_5{H:Hp}{a b:Addr}{o u:HO}(h:H a=some o)(h':H b=some u)(d:o≠u):a≠b:=by
 intro e;subst e;rw [h] at h';exact d (Option.some.inj h')
theorem Ef{H:Hp}{a b:Addr}{o:HO}(h:H a=some o)(h':H b=none):a≠b:=by
 intro e;subst e;rw [h] at h';cases h'
section
variable(P:Program)(w:World)
def ObjOk(H:Hp)(h:Heap)(a:Addr):HO->Prop
 | .lst xs=>xs.length<=sizeLine/\∃(its:List Value) (n:Nat),Vals xs its/\h.get? a=some {cls:=.type "list",data:=.seq its.toArray n}
 | .tup xs=>xs.length<=sizeLine/\∃its:List Value,Vals xs its/\IsTup h a its.toArray
 | .dK kvs=>kvs.length<=sizeLine/\(a ==sysModules)=false/\∃vs,KV kvs vs/\h.DictOf (Di P w) a vs
 | .dT kvs=>kvs.length<=sizeLine/\(a ==sysModules)=false/\∃xs:List (List Af×Addr×Value),
   Paired (λ(p:List Af×V) (q:List Af×Addr×Value)=>p.1=q.1/\H q.2.1=some (.tup (p.1.map kV))/\RelV p.2 q.2.2) kvs xs/\
   ∃o es ep,h.get? a=some o/\o.ExactDict/\o.data=.dict es ep/\es.toList=xs.map (entryOfKey (tupleKind (Di P w)))/\(xs.map (·.1)).Nodup
 | .set S n=>h.SetOf (intKind P w) a S n
 | .ins C dx fs=>H dx=some (.own a)/\fs.length<=1000/\dx≠a/\h.get? a=some (instObj C dx)/\
   ∃mA,h.Ns1 dx mA/\(∀f,RelO (fs.lookup f) (mA f))/\PySem.Within mA (fs.map (·.1))
 | .own _=>∃o,h.get? a=some o
 | .xd fs=>∃mA,h.Ns1 a mA/\∀f,RelO (fs.lookup f) (mA f)
 | .rng lo hi=>∃t u v,h.get? a=some {cls:=.type "range",data:=.fields #[.int lo t,.int hi u,.int 1 v]}
 | .frz o u=>h.get? a=some o/\ObjOk H h a u
 | .tbl ps=>h.get? a=some {cls:=.none,data:=.fields ps}
 | .met f x=>h.get? a=some (methodObj (.ref f) (.ref x))
 | .ext φ=>φ h/\(∃o,h.get? a=some o)/\∀h1 h2:Heap,φ h1->(∀o,h1.get? a=some o->h2.get? a=some o)->φ h2
def HOk(H:Hp)(h:Heap):Prop:=∀a o,H a=some o->ObjOk P w H h a o
end
section
variable{P:Program}{w:World}{H H':Hp}{h h':Heap}{a:Addr}{o:HO}
theorem ObjOk.lt(x:ObjOk P w H h a o):a < h.objs.size:=by
 cases o with
 |lst xs=>obtain⟨_,_,_,_,e⟩:=x;exact Heap.lt_size e
 |tup xs=>obtain⟨_,_,_,p⟩:=x;exact p.lt
 |dK kvs=>obtain⟨_,_,_,_,o,_,_,e,_⟩:=x;exact Heap.lt_size e
 |dT kvs=>obtain⟨_,_,_,_,o,_,_,e,_⟩:=x;exact Heap.lt_size e
 |set S n=>obtain⟨o,_,_,_,e,_⟩:=x;exact Heap.lt_size e
 |ins C dx fs=>obtain⟨_,_,_,e,_⟩:=x;exact Heap.lt_size e
 |own y=>obtain⟨_,e⟩:=x;exact Heap.lt_size e
 |xd fs=>obtain⟨_,⟨_,_,_,e,_⟩,_⟩:=x;exact Heap.lt_size e
 |rng lo hi=>obtain⟨_,_,_,e⟩:=x;exact Heap.lt_size e
 |frz ob u=>obtain⟨e,_⟩:=x;exact Heap.lt_size e
 |tbl ps=>exact Heap.lt_size (show h.get? a=some _ from x)
 |met f y=>exact Heap.lt_size (show h.get? a=some _ from x)
 |ext φ=>obtain⟨_,⟨_,e⟩,_⟩:=x;exact Heap.lt_size e
theorem Paired.mapP{α β:Type}{F G:α->β->Prop}:∀{l₁:List α} {l₂:List β},Paired F l₁ l₂->(∀a b,F a b->G a b)->Paired G l₁ l₂
 |_,_,.nil,_=> .nil
 |_,_,.cons r t,f=> .cons (f _ _ r) (Paired.mapP t f)
theorem ObjOk.stay(x:ObjOk P w H h a o)(k:∀b u,(b=a\/H b=some (.own a))->h.get? b=some u->h'.get? b=some u)
  (ho:∀b,H b=some (.own a)->H' b=some (.own a)) (ht:∀b xs,H b=some (.tup xs)->H' b=some (.tup xs)):ObjOk P w H' h' a o:=by
 induction o with
 |lst xs=>obtain⟨z,its,n,r,e⟩:=x;exact⟨z,its,n,r,k _ _ (.inl rfl) e⟩
 |tup xs=>obtain⟨z,its,r,ob,e,c⟩:=x;exact⟨z,its,r,ob,k _ _ (.inl rfl) e,c⟩
 |dK kvs=>obtain⟨z,y,vs,r,ob,es,ep,e,c⟩:=x;exact⟨z,y,vs,r,ob,es,ep,k _ _ (.inl rfl) e,c⟩
 |dT kvs=>
  obtain⟨z,y,xs,r,ob,es,ep,e,c⟩:=x;exact⟨z,y,xs,Paired.mapP r λp q z=>⟨z.1,ht _ _ z.2.1,z.2.2⟩,ob,es,ep,k _ _ (.inl rfl) e,c⟩
 |set S n=>obtain⟨ob,es,ep,t,e,c⟩:=x;exact⟨ob,es,ep,t,k _ _ (.inl rfl) e,c⟩
 |ins C dx fs=>
  obtain⟨d,z,ne,e,mA,⟨od,es,ep,e2,c⟩,r⟩:=x;exact⟨ho _ d,z,ne,k _ _ (.inl rfl) e,mA,⟨od,es,ep,k _ _ (.inr d) e2,c⟩,r⟩
 |own y=>obtain⟨ob,e⟩:=x;exact⟨ob,k _ _ (.inl rfl) e⟩
 |xd fs=>obtain⟨mA,⟨od,es,ep,e,c⟩,r⟩:=x;exact⟨mA,⟨od,es,ep,k _ _ (.inl rfl) e,c⟩,r⟩
 |rng lo hi=>obtain⟨t,u,v,e⟩:=x;exact⟨t,u,v,k _ _ (.inl rfl) e⟩
 |frz ob u ih=>obtain⟨e,q⟩:=x;exact⟨k _ _ (.inl rfl) e,ih q⟩
 |tbl ps=>
  have e:h.get? a=some {cls:=.none,data:=.fields ps}:=x;show h'.get? a=some {cls:=.none,data:=.fields ps};exact k a _ (.inl rfl) e
 |met f y=>
  have e:h.get? a=some (methodObj (.ref f) (.ref y)):=x;show h'.get? a=some (methodObj (.ref f) (.ref y));exact k a _ (.inl rfl) e
 |ext φ=>obtain⟨p,⟨o,e⟩,st⟩:=x;exact⟨st _ _ p λo q=>k _ _ (.inl rfl) q,⟨o,k _ _ (.inl rfl) e⟩,st⟩
theorem HOk.lt(x:HOk P w H h)(e:H a=some o):a < h.objs.size:=(x a o e).lt
theorem HOk.fresh(x:HOk P w H h)(e:h.objs.size<=a):H a=none:=by
 cases q:H a with
 |none=>rfl
 |some u=>exact absurd (Nat.lt_of_lt_of_le (x.lt q) e) (Nat.lt_irrefl _)
theorem HOk.kept(x:HOk P w H h)(k:∀b u,h.get? b=some u->h'.get? b=some u):HOk P w H h':=λa o e=>
 (x a o e).stay (λb u _ q=>k b u q) (λ_ q=>q) λ_ _ q=>q
theorem HOk.laid(x:HOk P w H h)(k:∀b u,h.get? b=some u->h'.get? b=some u)(hp:h.objs.size<=a)(new:ObjOk P w (upd H a o) h' a o):HOk P w (upd H a o) h':=λb u e=>by
 have hn:=x.fresh hp
 by_cases hb:b=a
 ·subst hb;rw [Ba] at e;cases e;exact new
 ·rw [An hb] at e;exact(x b u e).stay (λc v _ q=>k c v q) (λc q=>by rw [An (Ef q hn)];exact q) λc xs q=>by rw [An (Ef q hn)];exact q
end
def Rd(H:Hp)(a:Addr)(u:HO):Prop:=H a=some u\/∃o,H a=some (.frz o u)
theorem Rd.ok{P:Program}{w:World}{H:Hp}{h:Heap}{a:Addr}{u:HO}(r:Rd H a u)(x:HOk P w H h):ObjOk P w H h a u:=by
 rcases r with r|⟨o,r⟩
 ·exact x a u r
 ·obtain⟨_,q⟩:=x a _ r;exact q
def Mut:Option HO->Prop
 |some (.lst _)=>True
 |some (.dK _)=>True
 |some (.dT _)=>True
 |some (.set _ _)=>True
 |some (.ins _ _ _)=>True
 |some (.ext _)=>True
 |_=>False
section
variable{P:Program}{w:World}{H:Hp}{h h':Heap}{x e:Addr}{o':HO}
theorem HOk.write(ok:HOk P w H h)(mu:Mut (H x))(he:e=x\/H e=some (.own x))(k:∀b u,b≠e->h.get? b=some u->h'.get? b=some u)(heo:∃u,h'.get? e=some u)
  (new:ObjOk P w (upd H x o') h' x o'):HOk P w (upd H x o') h':=λb u q=>by
 have cz:∀c y,H c=some (.own y)->c≠x:=λc y r z=>by subst z;rw [r] at mu;exact mu
 have dz:∀c xs,H c=some (.tup xs)->c≠x:=λc xs r z=>by subst z;rw [r] at mu;exact mu
 by_cases hb:b=x
 ·subst hb;rw [Ba] at q;cases q;exact new
 ·rw [An hb] at q
  by_cases hbe:b=e
  ·have q':H b=some (.own x):=by
    rcases he with z|z
    ·exact absurd (hbe.trans z) hb
    ·rw [hbe];exact z
   rw [q] at q';cases q';obtain⟨v,hv⟩:=heo;exact⟨v,by rw [hbe];exact hv⟩
  ·refine(ok b u q).stay (λc v hc r=>k c v ?_ r) (λc r=>by rw [An (cz c b r)];exact r) λc xs r=>by rw [An (dz c xs r)];exact r
   rcases hc with rfl|hc
   ·exact hbe
   ·rintro rfl
    rcases he with z|z
    ·exact cz c b hc z
    ·rw [hc] at z;cases z;exact hb rfl
end
structure Un(fs ex:List Addr)(H H':Hp)(h h':Heap):Prop where
 keep:∀b o,h.get? b=some o->H b=none->b∉fs->b∉ex->h'.get? b=some o
 slot:∀b o,h.get? b=some o->H b=none->b∈fs->b∉ex->∃sl,h'.get? b=some {o with slots:=sl}
 free:∀b o,h.get? b=some o->H b=none->b∉ex->H' b=none
 there:∀b o,h.get? b=some o->b∉ex->∃o',h'.get? b=some o'
 tups:∀b xs,H b=some (.tup xs)->H' b=some (.tup xs)
 frzs:∀b o u,H b=some (.frz o u)->H' b=some (.frz o u)
 tbls:∀b ps,H b=some (.tbl ps)->∃more,H' b=some (.tbl (ps ++ more))
section
variable{fs fs' ex ex':List Addr}{H H1 H2:Hp}{h h1 h2 h':Heap}{a x e:Addr}{o:HO}
theorem Un.any(u:Un fs ex H H1 h h1){b:Addr}{ob:Obj}(q:h.get? b=some ob)(n:H b=none)(hx:b∉ex):∃sl,h1.get? b=some {ob with slots:=sl}:=by
 by_cases hb:b∈fs
 ·exact u.slot b ob q n hb hx
 ·exact⟨ob.slots,u.keep b ob q n hb hx⟩
theorem Un.kept(k:∀b u,h.get? b=some u->h'.get? b=some u):Un fs ex H H h h':=
 ⟨λb ob q _ _ _=>k b ob q,λb ob q _ _ _=>⟨ob.slots,k b ob q⟩,λ_ _ _ n _=>n,λb ob q _=>⟨ob,k b ob q⟩,λ_ _ q=>q,λ_ _ _ q=>q,λ_ ps q=>⟨#[],by rw [q];simp⟩⟩
theorem Un.refl:Un fs ex H H h h:=Un.kept λ_ _ q=>q
theorem Un.laid(k:∀b u,h.get? b=some u->h'.get? b=some u)(hp:h.objs.size<=a)(hn:H a=none):Un fs ex H (upd H a o) h h' where
 keep:=λb u q _ _ _=>k b u q
 slot:=λb u q _ _ _=>⟨u.slots,k b u q⟩
 free:=λb u q n _=>by rw [An (Nat.ne_of_lt (Nat.lt_of_lt_of_le (Heap.lt_size q) hp))];exact n
 there:=λb u q _=>⟨u,k b u q⟩
 tups:=λb xs q=>by rw [An (Ef q hn)];exact q
 frzs:=λb u xs q=>by rw [An (Ef q hn)];exact q
 tbls:=λb ps q=>⟨#[],by rw [An (Ef q hn),q];simp⟩
theorem Un.write(mu:Mut (H x))(he:e=x\/H e=some (.own x))(k:∀b u,b≠e->h.get? b=some u->h'.get? b=some u)(heo:∃u,h'.get? e=some u):Un fs ex H (upd H x o) h h':=by
 have hx:∀b,H b=none->b≠x:=λb n z=>by subst z;rw [n] at mu;exact mu
 have hb:∀b,H b=none->b≠e:=λb n z=>by
  subst z;rcases he with r|r
  ·exact hx b n r
  ·rw [n] at r;cases r
 have hm:∀b u,H b=some u->¬Mut (some u)->b≠x:=λb u q nm z=>by subst z;rw [q] at mu;exact nm mu
 refine⟨λb u q n _ _=>k b u (hb b n) q,λb u q n _ _=>⟨u.slots,k b u (hb b n) q⟩,λb u q n _=>by rw [An (hx b n)];exact n,λb u q _=> ?_,
  λb xs q=>by rw [An (hm b _ q λz=>z)];exact q,λb u xs q=>by rw [An (hm b _ q λz=>z)];exact q,λb ps q=>⟨#[],by rw [An (hm b _ q λz=>z),q];simp⟩⟩
 by_cases hbe:b=e
 ·subst hbe;exact heo
 ·exact⟨u,k b u hbe q⟩
end
def trk(h:Heap)(H:Hp):List Addr:=(List.range h.objs.size).filter λa=>(H a).isSome
def hidT(h:Heap)(H:Hp):Heap:=hideAll h (trk h H)
theorem cd_2(h:Heap)(H:Hp):(hidT h H).objs.size=h.objs.size:=hideAll_size _ _
theorem cj_0{h:Heap}{H:Hp}{b:Addr}{o:Obj}(e:h.get? b=some o)(n:H b=none):(hidT h H).get? b=some o:=
 hideAll_get _ e λhm=>by
  have q:(H b).isSome=true:=(List.mem_filter.mp hm).2;rw [n] at q;simp at q
theorem cu_9{h:Heap}{H:Hp}{b:Addr}{o:Obj}(e:(hidT h H).get? b=some o):h.get? b=some o/\H b=none:=by
 have e':h.get? b=some o:=of_hideAll (trk h H) e;refine⟨e', ?_⟩;cases q:H b with
 |none=>rfl
 |some x=>
  have hm:b∈trk h H:=List.mem_filter.mpr ⟨List.mem_range.mpr (Heap.lt_size e'),by simp [q]⟩;have z:(hidT h H).get? b=none:=hideAll_none (trk h H) hm;rw [z] at e;cases e
def cv_0(g h:Heap)(L:Addr):List (Addr×Obj):=(List.range h.objs.size).filterMap λa=>if a=L\/(g.get? a).isSome=true then none else(h.get? a).map λo=>(a,o)
def w_9(g h:Heap)(L d:Addr):List (Addr×Obj):=(cv_0 g h L).filter λp=>decide (p.1≠d)
structure Mod(K:Frag)(mg:Str->Option Value)(base:Heap):Prop where
 kin:K.In base
 glob:base.Ns mainGlobals mg
 blt:∃mb,base.Ns builtinsNs mb/\∀x:Str,x≠ "__name__" ->mb x=bootBuiltins x
 nolimit:base.NoLimit
structure Cx where
 prog:Program
 w:World
 K:Frag
 mg:Str->Option Value
 base:Heap
 A:Around
 N:List Str
 s₀:Shared
 H₀:Hp
 env:Env
 outer:List Env
 stack:List Env
 ex:List Addr
 fn:Str->Bool
 calm:Bool
 pn:List (Addr×Obj)
 xe:Value->Shared->Prop
def frs(l:List Env):List Addr:=l.filterMap (·.frame)
abbrev Cx.fs(X:Cx):List Addr:=frs X.outer
def Fu(sc:Scope)(x:Str):Prop:=sc.names.lookup x=some .local\/sc.names.lookup x=some .cell\/sc.names.lookup x=some .free
def Fb(sc:Scope)(x:Str):Prop:=sc.names.lookup x=some .local\/sc.names.lookup x=some .cell
def Look(env:Env)(h:Heap)(m:Str->Option Value)(x:Str)(u:Value):Prop:=
 (env.kindOf x=some .local/\m x=some u)\/((env.kindOf x=some .cell\/env.kindOf x=some .free)/\∃c,env.cells.lookup x=some c/\h.IsCell c (some u))
structure Cx.Ok(X:Cx):Prop where
 mod:Mod X.K X.mg X.base
 kind:X.env.scope.kind=.function
 glob:X.env.globals=mainGlobals
 blt:X.env.builtins=builtinsNs
 above:X.s₀.heap.objs.size<=X.env.locals
 inj:∀x y c,X.env.cells.lookup x=some c->X.env.cells.lookup y=some c->x=y
 has:∀x,(X.env.kindOf x=some .cell\/X.env.kindOf x=some .free)->∃c,X.env.cells.lookup x=some c
 cab:∀x c,X.fn x=true->X.env.cells.lookup x=some c->X.s₀.heap.objs.size<=c
 hd:X.calm=true->X.A.handled=none
 frames:X.A.frames=some X.stack
 stk:X.stack=X.outer\/(X.stack=X.env::X.outer/\X.env.frame=some X.env.locals)
 exf:∀b∈X.ex,b≠X.env.locals/\∀x c,X.env.cells.lookup x=some c->c≠b
 bs:∀b o,X.base.get? b=some o->X.s₀.heap.get? b=some o/\X.H₀ b=none
 bsz:X.base.objs.size<=X.s₀.heap.objs.size
 noex:∀b o,X.base.get? b=some o->b∉X.ex
 exfs:∀b∈X.ex,b∉X.fs
 funs:X.s₀.heap.FunFrames X.base X.outer
 frf:∀b∈X.fs,X.H₀ b=none
structure Inv(X:Cx)(zd:List (Addr×Obj))(σ:List (Option V))(H:Hp)(s:Shared):Prop where
 ok:X.Ok
 os:s.os=X.s₀.os
 bare:AllBare s.gens
 base:Un X.fs X.ex X.H₀ H X.s₀.heap s.heap
 loc:∃m,s.heap.Ns X.env.locals m/\∀(i:Nat) (x:Str) (v:V),X.N[i]? =some x->σ[i]? =some (some v)->Fu X.env.scope x->∃u,RelV v u/\Look X.env s.heap m x u
 cell:∀x c,X.env.cells.lookup x=some c->∃v,s.heap.IsCell c v
 free:H X.env.locals=none
 freeC:∀x c,X.env.cells.lookup x=some c->H c=none
 pin:∀p∈X.pn ++ zd,s.heap.get? p.1=some p.2/\H p.1=none/\p.1≠X.env.locals/\p.1∉X.fs/\∀v,p.2.data≠ .cell v
 hok:HOk X.prog X.w H s.heap
 len:σ.length=X.N.length
section
variable{X:Cx}{zd:List (Addr×Obj)}{σ:List (Option V)}{H H':Hp}{s:Shared}{h':Heap}
theorem Cx.Ok.nofr(ok:X.Ok){b:Addr}{o:Obj}(e:X.base.get? b=some o):b∉X.fs:=λhb=>by
 have:=(ok.funs.mem hb).1;rw [e] at this;cases this
theorem Inv.bs(I:Inv X zd σ H s):∀b o,X.base.get? b=some o->s.heap.get? b=some o/\H b=none:=λb o e=>
 ⟨I.base.keep b o (I.ok.bs b o e).1 (I.ok.bs b o e).2 (I.ok.nofr e) (I.ok.noex b o e),I.base.free b o (I.ok.bs b o e).1 (I.ok.bs b o e).2 (I.ok.noex b o e)⟩
theorem Inv.bk(I:Inv X zd σ H s):∀b o,X.base.get? b=some o->s.heap.get? b=some o:=λb o e=>(I.bs b o e).1
theorem Inv.mod(I:Inv X zd σ H s):Mod X.K X.mg X.base:=I.ok.mod
theorem Inv.kIn(I:Inv X zd σ H s):X.K.In s.heap:=I.ok.mod.kin.keeps I.bk
theorem Inv.nolimit(I:Inv X zd σ H s):s.heap.NoLimit:=I.ok.mod.nolimit.keeps I.bk
theorem Inv.fr(I:Inv X zd σ H s):∃m,Fr X.base X.env.locals s.heap m:=
 let⟨m,hn,_⟩:=I.loc
 ⟨m,hn,I.bk,Nat.le_trans I.ok.bsz I.ok.above⟩
theorem Inv.lt(I:Inv X zd σ H s):X.env.locals < s.heap.objs.size:=let⟨_,hn,_⟩:=I.loc;hn.lt
theorem Inv.sz(I:Inv X zd σ H s):X.s₀.heap.objs.size<=s.heap.objs.size:=Nat.le_trans I.ok.above (Nat.le_of_lt I.lt)
theorem Inv.nofs(I:Inv X zd σ H s){a:Addr}(h:s.heap.objs.size<=a):a∉X.fs:=λhb=>by
 obtain⟨_,o,ho,_⟩:=I.ok.funs.mem hb;exact absurd (Nat.lt_of_lt_of_le (Heap.lt_size ho) (Nat.le_trans I.sz h)) (Nat.lt_irrefl _)
theorem Inv.cne(I:Inv X zd σ H s):∀x c,X.env.cells.lookup x=some c->c≠X.env.locals:=λx c e z=>by
 obtain⟨v,o,ho,hd⟩:=I.cell x c e;obtain⟨m,⟨o',es,ep,ho',hd',_⟩,_⟩:=I.loc;rw [z,ho'] at ho;cases ho;rw [hd'] at hd;cases hd
theorem Inv.funs(I:Inv X zd σ H s):s.heap.FunFrames X.base X.outer:=by
 have all:∀(l:List Env),(∀b∈frs l,b∈X.fs)->X.s₀.heap.FunFrames X.base l->s.heap.FunFrames X.base l:=by
  intro l
  induction l with
  |nil=>intro _ _;trivial
  |cons env r ih=>
   intro hs hl;obtain⟨hk,⟨L,o,hf,hn,ho,hd⟩,hr⟩:=hl;have hL:L∈X.fs:=hs L (by unfold frs;rw [List.filterMap_cons,hf];exact List.mem_cons_self);obtain⟨sl,e⟩:=I.base.slot L o ho (I.ok.frf L hL) hL λz=>I.ok.exfs L z hL;exact⟨hk,⟨L,_,hf,hn,e,hd⟩,ih (λb hb=>hs b (by unfold frs;rw [List.filterMap_cons,hf];exact List.mem_cons_of_mem _ hb)) hr⟩
 exact all X.outer (λ_ hb=>hb) I.ok.funs
theorem Inv.stack(I:Inv X zd σ H s):s.heap.FunFrames X.base X.stack:=by
 rcases I.ok.stk with e|⟨e,hf⟩
 ·rw [e];exact I.funs
 ·rw [e];obtain⟨m,hn,_⟩:=I.loc;refine .cons (by rw [I.ok.kind];decide) hf hn ?_ I.funs;exact Heap.get?_none_of_le (Nat.le_trans I.ok.bsz I.ok.above)
theorem Inv.stkSub(I:Inv X zd σ H s):∀b∈frs X.stack,b∈X.env.locals::X.fs:=λb hb=>by
 rcases I.ok.stk with e|⟨e,hf⟩
 ·rw [e] at hb;exact List.mem_cons_of_mem _ hb
 ·rw [e] at hb;unfold frs at hb;rw [List.filterMap_cons,hf] at hb;exact hb
theorem Inv.stkFree(I:Inv X zd σ H s):∀b∈frs X.stack,H b=none:=λb hb=>by
 rcases List.mem_cons.mp (I.stkSub b hb) with e|hb
 ·rw [e];exact I.free
 ·obtain⟨_,o,ho,_⟩:=I.ok.funs.mem hb;exact I.base.free b o ho (I.ok.frf b hb) λz=>I.ok.exfs b z hb
theorem Inv.step{g':Array GenState}{t':Nat}{d':Drawn}{ch:List Addr}(I:Inv X zd σ H s)
  (hch:∀b∈ch,(b∈X.ex\/X.s₀.heap.objs.size<=b)/\b≠X.env.locals/\(∀x c,X.env.cells.lookup x=some c->c≠b)/\∀p∈X.pn ++ zd,p.1≠b)
  (keep:∀b o,b≠X.env.locals->b∉X.fs->b∉ch->s.heap.get? b=some o->H b=none->h'.get? b=some o)
  (slot:∀b o,b≠X.env.locals->b∈X.fs->b∉ch->s.heap.get? b=some o->H b=none->∃sl,h'.get? b=some {o with slots:=sl}) (free:∀b o,b∉ch->s.heap.get? b=some o->H b=none->H' b=none)
  (there:∀b o,b∉ch->s.heap.get? b=some o->∃o',h'.get? b=some o')
  (tups:∀b xs,H b=some (.tup xs)->H' b=some (.tup xs)) (frzs:∀b o u,H b=some (.frz o u)->H' b=some (.frz o u)) (tbls:∀b ps,H b=some (.tbl ps)->∃more,H' b=some (.tbl (ps ++ more)))
  (ns:∀m,s.heap.Ns X.env.locals m->h'.Ns X.env.locals m) (hok:HOk X.prog X.w H' h') (hg:AllBare g'):
  Inv X zd σ H' {s with heap:=h',gens:=g',drawn:=d',toks:=t'}:=by
 have neL:∀b o,X.s₀.heap.get? b=some o->b≠X.env.locals:=λb o e=>Nat.ne_of_lt (Nat.lt_of_lt_of_le (Heap.lt_size e) I.ok.above);have neC:∀b o,X.s₀.heap.get? b=some o->b∉X.ex->b∉ch:=λb o e hx hb=>by
  rcases(hch b hb).1 with z|z
  ·exact hx z
  ·exact absurd (Nat.lt_of_lt_of_le (Heap.lt_size e) z) (Nat.lt_irrefl _)
 have cellK:∀x c,X.env.cells.lookup x=some c->∀v,s.heap.IsCell c v->h'.IsCell c v:=λx c e v ⟨o,ho,hd⟩=>by
  have nch:c∉ch:=λz=>(hch c z).2.2.1 x c e rfl
  by_cases hc:c∈X.fs
  ·obtain⟨sl,q⟩:=slot c o (I.cne x c e) hc nch ho (I.freeC x c e);exact⟨_,q,hd⟩
  ·exact⟨o,keep c o (I.cne x c e) hc nch ho (I.freeC x c e),hd⟩
 refine⟨I.ok,I.os,hg,⟨λb o e n hb hx=> ?_,λb o e n hb hx=> ?_,λb o e n hx=> ?_,λb o e hx=> ?_,λb xs e=>tups b xs (I.base.tups b xs e),λb o xs e=>frzs b o xs (I.base.frzs b o xs e),λb ps e=> ?_⟩, ?_,λx c e=> ?_, ?_,λx c e=> ?_,λp hp=> ?_,hok,I.len⟩
 ·exact keep b o (neL b o e) hb (neC b o e hx) (I.base.keep b o e n hb hx) (I.base.free b o e n hx)
 ·obtain⟨sl,e1⟩:=I.base.slot b o e n hb hx;obtain⟨sl',e2⟩:=slot b _ (neL b o e) hb (neC b o e hx) e1 (I.base.free b o e n hx);exact⟨sl',e2⟩
 ·obtain⟨o',e1⟩:=I.base.there b o e hx;exact free b o' (neC b o e hx) e1 (I.base.free b o e n hx)
 ·obtain⟨o',e1⟩:=I.base.there b o e hx;exact there b o' (neC b o e hx) e1
 ·obtain⟨m1,e1⟩:=I.base.tbls b ps e;obtain⟨m2,e2⟩:=tbls b _ e1;exact⟨m1 ++ m2,by rw [e2,Array.append_assoc]⟩
 ·obtain⟨m,hn,hl⟩:=I.loc;refine⟨m,ns m hn,λi x v e1 e2 e3=> ?_⟩;obtain⟨u,r,l⟩:=hl i x v e1 e2 e3;refine⟨u,r, ?_⟩;rcases l with l|⟨k,c,e,z⟩
  ·exact .inl l
  ·exact .inr ⟨k,c,e,cellK x c e _ z⟩
 ·obtain⟨v,z⟩:=I.cell x c e;exact⟨v,cellK x c e v z⟩
 ·obtain⟨m,⟨o,_,_,ho,_⟩,_⟩:=I.loc;exact free _ o (λz=>(hch _ z).2.1 rfl) ho I.free
 ·obtain⟨v,o,ho,hd⟩:=I.cell x c e;exact free c o (λz=>(hch c z).2.2.1 x c e rfl) ho (I.freeC x c e)
 ·obtain⟨e,n,ne,nf,d⟩:=I.pin p hp;have nch:p.1∉ch:=λz=>(hch p.1 z).2.2.2 p hp rfl;exact⟨keep p.1 p.2 ne nf nch e n,free p.1 p.2 nch e n,ne,nf,d⟩
theorem Inv.un{t':Nat}(I:Inv X zd σ H s)(u:Un X.fs [] H H' s.heap h')(hok:HOk X.prog X.w H' h'):Inv X zd σ H' {s with heap:=h',toks:=t'}:=by
 obtain⟨m,⟨o,es,ep,ho,r⟩,_⟩:=id I.loc;obtain⟨sl,hL⟩:=u.any ho I.free (by simp);exact I.step (g':=s.gens) (d':=s.drawn) (ch:=[]) (λ_ z=>nomatch z) (λb o _ hb _ e n=>u.keep b o e n hb (by simp)) (λb o _ hb _ e n=>u.slot b o e n hb (by simp)) (λb o _ e n=>u.free b o e n (by simp)) (λb o _ e=>u.there b o e (by simp)) u.tups u.frzs u.tbls (λm' hm=>by
  obtain⟨o',es',ep',ho',r'⟩:=hm;rw [ho] at ho';cases ho';exact⟨_,es',ep',hL,r'⟩) hok I.bare
theorem Inv.call{g':Array GenState}{t':Nat}{d':Drawn}{ch:List Addr}(I:Inv X zd σ H s)(u:Un (frs X.stack) ch H H' s.heap h')(hok:HOk X.prog X.w H' h')(hg:AllBare g')
  (hch:∀b∈ch,(b∈X.ex\/X.s₀.heap.objs.size<=b)/\b≠X.env.locals/\(∀x c,X.env.cells.lookup x=some c->c≠b)/\∀p∈X.pn ++ zd,p.1≠b):
  Inv X zd σ H' {s with heap:=h',gens:=g',drawn:=d',toks:=t'}:=by
 obtain⟨m,⟨o,es,ep,ho,r⟩,_⟩:=id I.loc;obtain⟨sl,hL⟩:=u.any ho I.free λz=>(hch _ z).2.1 rfl;exact I.step (ch:=ch) hch (λb o hL hb hc e n=>u.keep b o e n (λz=>(List.mem_cons.mp (I.stkSub b z)).elim hL hb) hc) (λb o _ _ hc e n=>u.any e n hc) (λb o hc e n=>u.free b o e n hc) (λb o hc e=>u.there b o e hc) u.tups u.frzs u.tbls (λm' hm=>by
  obtain⟨o',es',ep',ho',r'⟩:=hm;rw [ho] at ho';cases ho';exact⟨_,es',ep',hL,r'⟩) hok hg
theorem Inv.turned{t':Nat}{it:Addr}(I:Inv X zd σ H s)(k:∀b o,b≠it->s.heap.get? b=some o->h'.get? b=some o)(hn:H it=none)(hL:it≠X.env.locals)
  (h1:it∈X.ex\/X.s₀.heap.objs.size<=it) (h2:∀x c,X.env.cells.lookup x=some c->c≠it) (h3:∀p∈X.pn ++ zd,p.1≠it):Inv X zd σ H {s with heap:=h',toks:=t'}:=by
 have nit:∀b u,H b=some u->b≠it:=λb u e z=>by rw [z,hn] at e;cases e
 refine I.step (g':=s.gens) (d':=s.drawn) (ch:=[it]) (λb hb=> ?_) (λb o _ _ hc e _=>k b o (λz=>hc (by simp [z])) e) (λb o _ _ hc e _=>⟨o.slots,k b o (λz=>hc (by simp [z])) e⟩) (λ_ _ _ _ n=>n)
  (λb o hc e=>⟨o,k b o (λz=>hc (by simp [z])) e⟩) (λ_ _ e=>e) (λ_ _ _ e=>e) (λb ps e=>⟨#[],by rw [e];simp⟩) (λm hm=> ?_) (λb u e=> ?_) I.bare
 ·have e:b=it:=by simpa using hb
  subst e;exact⟨h1,hL,h2,h3⟩
 ·obtain⟨o,es,ep,ho,r⟩:=hm;exact⟨o,es,ep,k _ o (Ne.symm hL) ho,r⟩
 ·refine(I.hok b u e).stay (λc v hc q=>k c v ?_ q) (λ_ q=>q) λ_ _ q=>q;rcases hc with z|z
  ·rw [z];exact nit b u e
  ·exact nit c _ z
theorem Inv.tok(I:Inv X zd σ H s)(t:Nat):Inv X zd σ H {s with toks:=t}:=I.un (h':=s.heap) (t':=t) Un.refl I.hok
theorem Inv.kept{t':Nat}(I:Inv X zd σ H s)(k:∀b u,s.heap.get? b=some u->h'.get? b=some u):Inv X zd σ H {s with heap:=h',toks:=t'}:=I.un (Un.kept k) (I.hok.kept k)
theorem Inv.laid{a:Addr}{o:HO}{t':Nat}(I:Inv X zd σ H s)(k:∀b u,s.heap.get? b=some u->h'.get? b=some u)(hp:s.heap.objs.size<=a)(new:ObjOk X.prog X.w (upd H a o) h' a o):
  Inv X zd σ (upd H a o) {s with heap:=h',toks:=t'}:=I.un (Un.laid k hp (I.hok.fresh hp)) (I.hok.laid k hp new)
theorem Inv.write{x e:Addr}{o:HO}{t':Nat}(I:Inv X zd σ H s)(mu:Mut (H x))(he:e=x\/H e=some (.own x))(k:∀b u,b≠e->s.heap.get? b=some u->h'.get? b=some u)(heo:∃u,h'.get? e=some u)
  (new:ObjOk X.prog X.w (upd H x o) h' x o):Inv X zd σ (upd H x o) {s with heap:=h',toks:=t'}:=I.un (Un.write mu he k heo) (I.hok.write mu he k heo new)
theorem Inv.pins_of{ao:List (Addr×Obj)}(I:Inv X zd σ H s)(h:∀p∈ao,s.heap.get? p.1=some p.2/\H p.1=none/\p.1≠X.env.locals/\p.1∉X.fs/\∀v,p.2.data≠ .cell v):Inv X ao σ H s:=
 ⟨I.ok,I.os,I.bare,I.base,I.loc,I.cell,I.free,I.freeC,λp hp=>(List.mem_append.mp hp).elim (λz=>I.pin p (List.mem_append_left _ z)) (h p),I.hok,I.len⟩
theorem ap_7{N:List Str}(hN:N.Nodup){i j:Nat}{x:Str}(a:N[i]? =some x)(b:N[j]? =some x):i=j:=by
 obtain⟨h1,e1⟩:=List.getElem?_eq_some_iff.mp a;obtain⟨h2,e2⟩:=List.getElem?_eq_some_iff.mp b;exact(List.getElem_inj hN).mp (e1.trans e2.symm)
theorem ay_1{M:Model}{A:Around}{E:Value->Shared->Prop}{i:Nat}{x:Str}{v:V}{u:Value}{Q:Unit->Shared->Prop}(I:Inv X zd σ H s)(hN:X.N.Nodup)(hi:X.N[i]? =some x)(hx:Fb X.env.scope x)(r:RelV v u)
  (h:∀s',Inv X zd (σ.set i (some v)) H s'->(∃a,Heap.SameBut a s.heap s'.heap/\(a=X.env.locals\/X.env.cells.lookup x=some a))->Q () s') (hf:X.fn x=true\/X.env.scope.names.lookup x=some .local:=by first|exact .inl rfl|exact .inr rfl|assumption):wpAny M A (storeName X.env x u) Q E s:=by
 obtain⟨m,hn,hl⟩:=id I.loc;have cj:(X.env.scope.kind == .class || (X.env.scope.kind == .module && X.env.locals != X.env.globals))=false:=by rw [I.ok.kind];rfl
 have hiσ:i < σ.length:=by rw [I.len];exact(List.getElem?_eq_some_iff.mp hi).1
 have cne:=I.cne;have tracked:∀{a:Addr} {h':Heap},(∃o,s.heap.get? a=some o/\H a=none)->Heap.SameBut a s.heap h'->HOk X.prog X.w H h':=λ{a h'} ha hs b ob e=>by
  obtain⟨_,_,aq⟩:=ha;refine(I.hok b ob e).stay (λc w' hc q=>(hs.2 c ?_).trans q) (λ_ q=>q) λ_ _ q=>q
  rintro rfl
  rcases hc with rfl|hc
  ·rw [aq] at e;cases e
  ·rw [aq] at hc;cases hc
 rcases hx with hk|hk
 ·refine wpAny_storeName_local hk hn (λh' hn' hs=> ?_) cj;obtain⟨oL,_,_,hoL,_⟩:=id hn;refine h _ ⟨I.ok,I.os,I.bare,⟨λb o e n hb hx=> ?_,λb o e n hb hx=> ?_,I.base.free,λb o e hx=> ?_,I.base.tups,I.base.frzs,I.base.tbls⟩,⟨_,hn',λj y v' e1 e2 e3=> ?_⟩,λy c e=> ?_,I.free,I.freeC,λp hp=> ?_,tracked ⟨oL,hoL,I.free⟩ hs,by simpa using I.len⟩ ⟨_,hs,.inl rfl⟩
  ·exact(hs.2 b (Nat.ne_of_lt (Nat.lt_of_lt_of_le (Heap.lt_size e) I.ok.above))).trans (I.base.keep b o e n hb hx)
  ·obtain⟨sl,e1⟩:=I.base.slot b o e n hb hx;exact⟨sl,(hs.2 b (Nat.ne_of_lt (Nat.lt_of_lt_of_le (Heap.lt_size e) I.ok.above))).trans e1⟩
  ·obtain⟨o',e1⟩:=I.base.there b o e hx;exact⟨o',(hs.2 b (Nat.ne_of_lt (Nat.lt_of_lt_of_le (Heap.lt_size e) I.ok.above))).trans e1⟩
  ·by_cases hj:j=i
   ·subst hj;rw [hi] at e1;cases e1;rw [List.getElem?_set_self hiσ] at e2;cases e2;exact⟨u,r,.inl ⟨hk,by simp⟩⟩
   ·rw [List.getElem?_set_ne (Ne.symm hj)] at e2;obtain⟨u',r',q⟩:=hl j y v' e1 e2 e3;refine⟨u',r', ?_⟩;rcases q with⟨k,e⟩|⟨k,c,e,z⟩
    ·refine .inl ⟨k, ?_⟩;have:y≠x:=λe=>hj (ap_7 hN e1 (e▸hi));simp [this,e]
    ·exact .inr ⟨k,c,e,z.sameBut hs (cne y c e)⟩
  ·obtain⟨w',z⟩:=I.cell y c e;exact⟨w',z.sameBut hs (cne y c e)⟩
  ·obtain⟨e,n,ne,nf,d⟩:=I.pin p hp;exact⟨(hs.2 p.1 ne).trans e,n,ne,nf,d⟩
 ·have hfn:X.fn x=true:=by
   rcases hf with z|z
   ·exact z
   ·rw [z] at hk;cases hk
  obtain⟨c,hc⟩:=I.ok.has x (.inl hk);obtain⟨w',z⟩:=I.cell x c hc;refine wpAny_storeName_cell I.ok.kind hk hc z (λh' hc' hs=> ?_);obtain⟨oc,hoc,dn⟩:=id z;refine h {s with heap:=h'} ⟨I.ok,I.os,I.bare,⟨λb o e n hb hx=> ?_,λb o e n hb hx=> ?_,I.base.free,λb o e hx=> ?_,I.base.tups,I.base.frzs,I.base.tbls⟩,⟨m,hn.sameBut hs (Ne.symm (cne x c hc)),λj y v' e1 e2 e3=> ?_⟩,λy c' e=> ?_,I.free,I.freeC,λp hp=> ?_,tracked ⟨oc,hoc,I.freeC x c hc⟩ hs,by simpa using I.len⟩ ⟨c,hs,.inr hc⟩
  ·exact(hs.2 b (Nat.ne_of_lt (Nat.lt_of_lt_of_le (Heap.lt_size e) (I.ok.cab x c hfn hc)))).trans (I.base.keep b o e n hb hx)
  ·obtain⟨sl,e1⟩:=I.base.slot b o e n hb hx;exact⟨sl,(hs.2 b (Nat.ne_of_lt (Nat.lt_of_lt_of_le (Heap.lt_size e) (I.ok.cab x c hfn hc)))).trans e1⟩
  ·obtain⟨o',e1⟩:=I.base.there b o e hx;exact⟨o',(hs.2 b (Nat.ne_of_lt (Nat.lt_of_lt_of_le (Heap.lt_size e) (I.ok.cab x c hfn hc)))).trans e1⟩
  ·by_cases hj:j=i
   ·subst hj;rw [hi] at e1;cases e1;rw [List.getElem?_set_self hiσ] at e2;cases e2;exact⟨u,r,.inr ⟨.inl hk,c,hc,hc'⟩⟩
   ·rw [List.getElem?_set_ne (Ne.symm hj)] at e2;obtain⟨u',r',q⟩:=hl j y v' e1 e2 e3;refine⟨u',r', ?_⟩;rcases q with q|⟨k,c',e,z'⟩
    ·exact .inl q
    ·refine .inr ⟨k,c',e,z'.sameBut hs ?_⟩
     rintro rfl
     exact hj (ap_7 hN e1 (I.ok.inj _ _ _ e hc▸hi))
  ·by_cases hcc:c'=c
   ·subst hcc;exact⟨_,hc'⟩
   ·obtain⟨w2,z2⟩:=I.cell y c' e;exact⟨w2,z2.sameBut hs hcc⟩
  ·obtain⟨e,n,ne,nf,d⟩:=I.pin p hp;refine⟨(hs.2 p.1 ?_).trans e,n,ne,nf,d⟩;intro q;rw [q,hoc] at e;have q':oc=p.2:=Option.some.inj e;exact d w' (by rw [<-q'];exact dn)
theorem ap_8{M:Model}{A:Around}{E:Value->Shared->Prop}{i:Nat}{x:Str}{v:V}{u:Value}{Q:Unit->Shared->Prop}(I:Inv X zd σ H s)(hN:X.N.Nodup)(hi:X.N[i]? =some x)(hx:Fb X.env.scope x)(r:RelV v u)
  (h:∀s',Inv X zd (σ.set i (some v)) H s'->Q () s') (hf:X.fn x=true\/X.env.scope.names.lookup x=some .local:=by first|exact .inl rfl|exact .inr rfl|assumption):wpAny M A (storeName X.env x u) Q E s:=
 ay_1 I hN hi hx r (λs' I' _=>h s' I') hf
theorem Inv.call'{s':Shared}{ch:List Addr}(I:Inv X zd σ H s)(ho:s'.os=s.os)(u:Un (frs X.stack) ch H H' s.heap s'.heap)(hok:HOk X.prog X.w H' s'.heap)(hg:AllBare s'.gens)
  (hch:∀b∈ch,(b∈X.ex\/X.s₀.heap.objs.size<=b)/\b≠X.env.locals/\(∀x c,X.env.cells.lookup x=some c->c≠b)/\∀p∈X.pn ++ zd,p.1≠b):Inv X zd σ H' s':=by
 obtain⟨h',g',d',t',o'⟩:=s';have e:o'=s.os:=ho;subst e;exact I.call (g':=g') (t':=t') (d':=d') u hok hg hch
end
abbrev XK:=Value->Option Addr->Hp->Prop
abbrev St:=List (Option V)
abbrev VK:=V->Hp->Prop
abbrev TE:=St->Hp->VK->Prop
abbrev TT:=St->Hp->(Bool->Hp->Prop)->Prop
abbrev TA:=St->Hp->(List V->Hp->Prop)->Prop
structure Ends where
 nx:St->Hp->Prop
 rt:VK
 bk:St->Hp->Prop:=λ_ _=>False
 ct:St->Hp->Prop:=λ_ _=>False
abbrev TS:=Ends->St->Hp->Prop
def EP(X:Cx)(zd:List (Addr×Obj))(σ:St)(Q:VK)(u:Value)(s':Shared):Prop:=∃v H',Inv X zd σ H' s'/\RelV v u/\Q v H'
def TP(X:Cx)(zd:List (Addr×Obj))(σ:St)(Q:Bool->Hp->Prop)(b:Bool)(s':Shared):Prop:=∃H',Inv X zd σ H' s'/\Q b H'
def AP(X:Cx)(zd:List (Addr×Obj))(σ:St)(Q:List V->Hp->Prop)(us:List Value)(s':Shared):Prop:=∃vs H',Inv X zd σ H' s'/\Vals vs us/\Q vs H'
def SP(X:Cx)(zd:List (Addr×Obj))(D:Ends)(f:Flow)(s':Shared):Prop:=
 match f with
 | .next=>∃σ' H',Inv X zd σ' H' s'/\D.nx σ' H'
 | .brk=>∃σ' H',Inv X zd σ' H' s'/\D.bk σ' H'
 | .cont=>∃σ' H',Inv X zd σ' H' s'/\D.ct σ' H'
 | .ret u=>∃v σ' H',Inv X zd σ' H' s'/\RelV v u/\D.rt v H'
def PE(X:Cx)(e:Expr)(t:TE):Prop:=
 ∀(zd:List (Addr×Obj)) (s:Shared) (σ:St) (H:Hp) (Q:VK),Inv X zd σ H s->t σ H Q->wpAny (model X.prog X.w) X.A (eval e X.env) (EP X zd σ Q) X.xe s
def PT(X:Cx)(e:Expr)(t:TT):Prop:=
 ∀(zd:List (Addr×Obj)) (s:Shared) (σ:St) (H:Hp) (Q:Bool->Hp->Prop),Inv X zd σ H s->t σ H Q->wpAny (model X.prog X.w) X.A (isTrue e X.env (eval e X.env)) (TP X zd σ Q) X.xe s
def PW(X:Cx)(e:Expr)(t:TT):Prop:=
 ∀(whole:Sem Value) (zd:List (Addr×Obj)) (s:Shared) (σ:St) (H:Hp) (Q:Bool->Hp->Prop),Inv X zd σ H s->t σ H Q->wpAny (model X.prog X.w) X.A (isTrue e X.env whole) (TP X zd σ Q) X.xe s
theorem PW.pt{X:Cx}{e:Expr}{t:TT}(h:PW X e t):PT X e t:=h _
def PA(X:Cx)(es:List Expr)(t:TA):Prop:=
 ∀(pos:Pos) (zd:List (Addr×Obj)) (s:Shared) (σ:St) (H:Hp) (Q:List V->Hp->Prop),Inv X zd σ H s->t σ H Q->wpAny (model X.prog X.w) X.A (spliced (backTo pos (starEach es X.env))) (AP X zd σ Q) X.xe s
def PS(X:Cx)(st:Stmt)(t:TS):Prop:=
 ∀(zd:List (Addr×Obj)) (s:Shared) (σ:St) (H:Hp) (D:Ends),Inv X zd σ H s->t D σ H->wpAny (model X.prog X.w) X.A (exec st X.env) (SP X zd D) X.xe s
def PSs(X:Cx)(st:List Stmt)(t:TS):Prop:=
 ∀(zd:List (Addr×Obj)) (s:Shared) (σ:St) (H:Hp) (D:Ends),Inv X zd σ H s->t D σ H->wpAny (model X.prog X.w) X.A (execs st X.env) (SP X zd D) X.xe s
theorem Aw{α:Type}{t:Sem α}{Q Q':α->Shared->Prop}{M:Model}{A:Around}{E:Value->Shared->Prop}{s:Shared}(h:wpAny M A t Q E s)(hQ:∀a s,Q a s->Q' a s):wpAny M A t Q' E s:=wpAny_mono h hQ λ_ _ x=>x
section
variable{X:Cx}
def tVar(i:Nat):TE:=λ σ H Q=>∃v,σ[i]? =some (some v)/\Q v H
def tC(v:V):TE:=λ_ H Q=>Q v H
theorem Ft{i:Nat}{x:Str}{pos:Pos}(hN:X.N[i]? =some x)(hv:Fu X.env.scope x)(hd:(x ==("__debug__" :Str))=false:=by decide)(hcd:(x ==("__classdict__" :Str))=false:=by decide):PE X (.Name x pos) (tVar i):=by
 intro zd s σ H Q I h;obtain⟨v,e,h⟩:=h;obtain⟨m,hn,hl⟩:=I.loc;obtain⟨u,r,l⟩:=hl i x v hN e hv;have fin:EP X zd σ Q u s:=⟨v,H,I,r,h⟩;rcases l with⟨hk,hm⟩|⟨hk,c,hc,hcell⟩
 ·exact wpAny_Name (wpAny_loadName_local I.ok.kind hk hn hm fin) hd
 ·rcases hk with hk|hk
  ·exact wpAny_Name (wpAny_loadName_cell I.ok.kind hk hc hcell fin) hd
  ·exact wpAny_Name (wpAny_loadName_free I.ok.kind hk hc hcell fin hcd) hd
theorem dg_9{i j pos}:PE X (.Constant (.int i) j pos) (tC (.int i)):=λ_ _ _ H _ I h=>wpAny_Constant_int ⟨.int i,H,I.tok _,⟨_,rfl⟩,h⟩
theorem do_6{b j pos}:PE X (.Constant (.bool b) j pos) (tC (.bl b)):=λ_ _ _ H _ I h=>Constant_bool ⟨.bl b,H,I,rfl,h⟩
theorem dh_0{j pos}:PE X (.Constant .none j pos) (tC .non):=λ_ _ _ H _ I h=>Constant_none ⟨.non,H,I,rfl,h⟩
theorem dh_1{x j pos}:PE X (.Constant (.str x) j pos) (tC (.str x)):=λ_ _ _ H _ I h=>Calls.Constant_str ⟨.str x,H,I.tok _,⟨_,rfl⟩,h⟩
def Gl(X:Cx)(x:Str):Prop:=X.env.kindOf x=some .globalImplicit
theorem p_6{E:Value->Shared->Prop}{zd:List (Addr×Obj)}{s:Shared}{σ:St}{H:Hp}{x:Str}{u:Value}{pos:Pos}{Q:Value->Shared->Prop}(I:Inv X zd σ H s)(hg:Gl X x)(hm:X.mg x=some u)(h:Q u s)
  (hd:(x ==("__debug__" :Str))=false:=by decide):wpAny (model X.prog X.w) X.A (eval (.Name x pos) X.env) Q E s:=
 Calls.Name_function_global I.ok.kind hg (Calls.loadGlobal_global (by rw [I.ok.glob];exact I.mod.glob.keeps I.bk) hm h) hd
theorem ac_5{E:Value->Shared->Prop}{zd:List (Addr×Obj)}{s:Shared}{σ:St}{H:Hp}{x:Str}{u:Value}{pos:Pos}{Q:Value->Shared->Prop}(I:Inv X zd σ H s)(hg:Gl X x)(hm:X.mg x=none)(hv:bootBuiltins x=some u)(h:Q u s)
  (hn:x≠ "__name__" :=by decide) (hd:(x ==("__debug__" :Str))=false:=by decide):wpAny (model X.prog X.w) X.A (eval (.Name x pos) X.env) Q E s:=by
 obtain⟨mb,h1,h2⟩:=I.mod.blt;exact Calls.Name_function_global I.ok.kind hg (Calls.loadGlobal_builtin (by rw [I.ok.glob];exact I.mod.glob.keeps I.bk) hm (by rw [I.ok.blt];exact h1.keeps I.bk) ((h2 x hn).trans hv) h) hd
theorem bw_4{x:Str}{v:V}{u:Value}{pos:Pos}(hg:Gl X x)(hm:X.mg x=some u)(r:RelV v u)(hd:(x ==("__debug__" :Str))=false:=by decide):PE X (.Name x pos) (tC v):=
 λ_ _ _ H _ I h=>p_6 I hg hm ⟨v,H,I,r,h⟩ hd
theorem cv_2{x:Str}{v:V}{u:Value}{pos:Pos}(hg:Gl X x)(hm:X.mg x=none)(hv:bootBuiltins x=some u)(r:RelV v u)(hn:x≠ "__name__" :=by decide)(hd:(x ==("__debug__" :Str))=false:=by decide):PE X (.Name x pos) (tC v):=
 λ_ _ _ H _ I h=>ac_5 I hg hm hv ⟨v,H,I,r,h⟩ hn hd
variable{a b:Expr}{ta tb:TE}{pos:Pos}
variable{tA tB':TT}{w_9:List Expr}
def tAnd(t u:TT):TT:=λ σ H Q=>t σ H λc H1=>if c=true then u σ H1 Q else Q false H1
def tOr(t u:TT):TT:=λ σ H Q=>t σ H λc H1=>if c=true then Q true H1 else u σ H1 Q
def tNot(t:TT):TT:=λ σ H Q=>t σ H λc H1=>Q (!c) H1
theorem cv_3(ha:PT X a tA):PW X (.BoolOp .And [a] pos) tA:=by
 intro wh zd s σ H Q I h;refine isTrue_and (Aw (ha zd s σ H Q I h) λc s1 e=> ?_);cases c with
 |true=>exact isTrue_and_nil e
 |false=>exact e
theorem dh_2(ha:PT X a tA):PW X (.BoolOp .Or [a] pos) tA:=by
 intro wh zd s σ H Q I h;refine isTrue_or (Aw (ha zd s σ H Q I h) λc s1 e=> ?_);cases c with
 |false=>exact isTrue_or_nil e
 |true=>exact e
theorem dh_3(ha:PT X a tA)(hb:PW X (.BoolOp .And (b::w_9) pos) tB'):PW X (.BoolOp .And (a::b::w_9) pos) (tAnd tA tB'):=by
 intro wh zd s σ H Q I h;refine isTrue_and (Aw (ha zd s σ H _ I h) λc s1 ⟨H1,I1,q1⟩=> ?_);cases c with
 |true=>exact hb wh zd s1 σ H1 Q I1 q1
 |false=>exact⟨H1,I1,q1⟩
theorem do_7(ha:PT X a tA)(hb:PW X (.BoolOp .Or (b::w_9) pos) tB'):PW X (.BoolOp .Or (a::b::w_9) pos) (tOr tA tB'):=by
 intro wh zd s σ H Q I h;refine isTrue_or (Aw (ha zd s σ H _ I h) λc s1 ⟨H1,I1,q1⟩=> ?_);cases c with
 |true=>exact⟨H1,I1,q1⟩
 |false=>exact hb wh zd s1 σ H1 Q I1 q1
theorem dh_4(ha:PT X a tA):PT X (.UnaryOp .Not a pos) (tNot tA):=by
 intro zd s σ H Q I h;exact isTrue_not (ha zd s σ H (λc H1=>Q (!c) H1) I h)
def do_8(ta tb:TE):TE:=λ σ H Q=>ta σ H λx H1=>∃c,x=.bl c/\if c=true then tb σ H1 Q else Q (.bl false) H1
def do_9(ta:TE):TE:=λ σ H Q=>ta σ H λx H1=>∃c,x=.bl c/\Q (.bl (!c)) H1
theorem dh_5{op}{t:TE}(h:PE X a t):PE X (.BoolOp op [a] pos) t:=λzd s σ H Q I hw=>BoolOp_one (h zd s σ H Q I hw)
theorem dh_6(ha:PE X a ta)(hb:PE X (.BoolOp .And (b::w_9) pos) tb):PE X (.BoolOp .And (a::b::w_9) pos) (do_8 ta tb):=by
 intro zd s σ H Q I h;refine BoolOp_and (Aw (ha zd s σ H _ I h) λv s1 ⟨x,H1,I1,r1,q1⟩=> ?_);obtain⟨c,rfl,q1⟩:=q1;cases r1;refine wpAny_truthy_bool ?_;cases c with
 |true=>exact hb zd s1 σ H1 Q I1 q1
 |false=>exact⟨.bl false,H1,I1,rfl,q1⟩
theorem dh_7(ha:PE X a ta):PE X (.UnaryOp .Not a pos) (do_9 ta):=by
 intro zd s σ H Q I h;refine UnaryOp_ (Aw (ha zd s σ H _ I h) λv s1 ⟨x,H1,I1,r1,q1⟩=> ?_);obtain⟨c,rfl,q1⟩:=q1;cases r1;exact not_of (wpAny_truthy_bool ⟨.bl (!c),H1,I1,rfl,q1⟩)
def tIf(t:TT)(ta tb:TE):TE:=λ σ H Q=>t σ H λc H1=>if c=true then ta σ H1 Q else tb σ H1 Q
theorem cj_1{c:Expr}(hc:PT X c tA)(ha:PE X a ta)(hb:PE X b tb):PE X (.IfExp c a b pos) (tIf tA ta tb):=by
 intro zd s σ H Q I h;refine wpAny_IfExp (Aw (hc zd s σ H _ I h) λd s1 ⟨H1,I1,q1⟩=> ?_);cases d with
 |true=>exact ha zd s1 σ H1 Q I1 q1
 |false=>exact hb zd s1 σ H1 Q I1 q1
end
def SqL(K:Frag)(H:Hp)(a:Addr)(xs:List V):Prop:=
 Rd H a (.lst xs)\/
  ∃(o:Obj) (its:Array Value) (n:Nat),K.lookup a=some o/\o.cls=.type "list" /\o.dict=none/\o.data=.seq its n/\its.size<=sizeLine/\Vals xs its.toList
def SqT(K:Frag)(H:Hp)(a:Addr)(xs:List V):Prop:=
 Rd H a (.tup xs)\/
  ∃(o:Obj) (its:Array Value) (n:Nat),K.lookup a=some o/\o.cls=.type "tuple" /\o.data=.seq its n/\its.size<=sizeLine/\Vals xs its.toList
def absV:Value->Option V
 | .none=>some .non
 | .bool b=>some (.bl b)
 | .int i _=>some (.int i)
 | .str x _=>some (.str x)
 | .bytes b _=>some (.byt b)
 | .float b _=>some (.flt b)
 | .ref a=>some (.ref a)
 | .type n=>some (.ty n)
 |_=>none
theorem RelV.abs{x:V}{u:Value}(r:RelV x u):absV u=some x:=by
 cases x with
 |non=>cases r;rfl
 |bl _=>cases r;rfl
 |int _=>obtain⟨t,rfl⟩:=r;rfl
 |str _=>obtain⟨t,rfl⟩:=r;rfl
 |byt _=>obtain⟨t,rfl⟩:=r;rfl
 |flt _=>obtain⟨t,rfl⟩:=r;rfl
 |ref _=>cases r;rfl
 |ty _=>cases r;rfl
theorem RelV.inj{x y:V}{u:Value}(r:RelV x u)(q:RelV y u):x=y:=Option.some.inj (r.abs.symm.trans q.abs)
theorem Vals.inj:∀{xs ys:List V} {us:List Value},Vals xs us->Vals ys us->xs=ys
 |_,_,_,.nil,.nil=>rfl
 |_,_,_,.cons r t,.cons r' t'=>by rw [r.inj r',Vals.inj t t']
section
variable{X:Cx}{zd:List (Addr×Obj)}{σ:St}{H:Hp}{s:Shared}{a:Addr}{xs ys:List V}
theorem SqL.of{K:Frag}(h:H a=some (.lst xs)):SqL K H a xs:=.inl (.inl h)
theorem SqT.of{K:Frag}(h:H a=some (.tup xs)):SqT K H a xs:=.inl (.inl h)
theorem Inv.list(I:Inv X zd σ H s)(h:SqL X.K H a xs):∃its:List Value,Vals xs its/\PlainL s.heap a its.toArray/\xs.length<=sizeLine:=by
 rcases h with h|⟨o,its,n,hk,hc,hd,hs,hz,r⟩
 ·obtain⟨z,its,n,r,e⟩:=h.ok I.hok;exact⟨its,r,⟨_,n,e,rfl,rfl,rfl⟩,z⟩
 ·refine⟨its.toList,r,⟨o,n,I.kIn a o hk,hc,hd,by simpa using hs⟩, ?_⟩;have e:=r.length;simp only [Array.length_toList] at e;omega
theorem Inv.tuple(I:Inv X zd σ H s)(h:SqT X.K H a xs):∃its:List Value,Vals xs its/\IsTup s.heap a its.toArray/\xs.length<=sizeLine:=by
 rcases h with h|⟨o,its,n,hk,hc,hs,hz,r⟩
 ·obtain⟨z,its,r,p⟩:=h.ok I.hok;exact⟨its,r,p,z⟩
 ·refine⟨its.toList,r,⟨o,I.kIn a o hk,hc,n,by simpa using hs⟩, ?_⟩;have e:=r.length;simp only [Array.length_toList] at e;omega
theorem Inv.list_inj(I:Inv X zd σ H s)(h:SqL X.K H a xs)(h':SqL X.K H a ys):xs=ys:=by
 obtain⟨its,r,⟨o,n,e,_,_,d⟩,_⟩:=I.list h;obtain⟨its',r',⟨o',n',e',_,_,d'⟩,_⟩:=I.list h';rw [e] at e';cases e';rw [d] at d';injection d' with d1 _
 have:its=its':=by simpa using congrArg Array.toList d1
 subst this;exact r.inj r'
theorem Inv.tuple_inj(I:Inv X zd σ H s)(h:SqT X.K H a xs)(h':SqT X.K H a ys):xs=ys:=by
 obtain⟨its,r,⟨o,e,_,n,d⟩,_⟩:=I.tuple h;obtain⟨its',r',⟨o',e',_,n',d'⟩,_⟩:=I.tuple h';rw [e] at e';cases e';rw [d] at d';injection d' with d1 _
 have:its=its':=by simpa using congrArg Array.toList d1
 subst this;exact r.inj r'
end
abbrev Cx.wish(X:Cx)(E:Value->Shared->Prop):Cx:={X with xe:=E}
abbrev Cx.nox(X:Cx):Cx:=X.wish λ_ _=>False
theorem Cx.Ok.wish{X:Cx}(ok:X.Ok)(E:Value->Shared->Prop):(X.wish E).Ok:=
 ⟨ok.mod,ok.kind,ok.glob,ok.blt,ok.above,ok.inj,ok.has,ok.cab,ok.hd,ok.frames,ok.stk,ok.exf,ok.bs,ok.bsz,ok.noex,ok.exfs,ok.funs,ok.frf⟩
theorem Cx.Ok.unwish{X:Cx}{E:Value->Shared->Prop}(ok:(X.wish E).Ok):X.Ok:=
 ⟨ok.mod,ok.kind,ok.glob,ok.blt,ok.above,ok.inj,ok.has,ok.cab,ok.hd,ok.frames,ok.stk,ok.exf,ok.bs,ok.bsz,ok.noex,ok.exfs,ok.funs,ok.frf⟩
section
variable{X:Cx}{zd:List (Addr×Obj)}{σ:St}{H:Hp}{s:Shared}{E:Value->Shared->Prop}
theorem Inv.wish(I:Inv X zd σ H s)(E:Value->Shared->Prop):Inv (X.wish E) zd σ H s:=⟨I.ok.wish E,I.os,I.bare,I.base,I.loc,I.cell,I.free,I.freeC,I.pin,I.hok,I.len⟩
theorem Inv.unwish(I:Inv (X.wish E) zd σ H s):Inv X zd σ H s:=⟨I.ok.unwish,I.os,I.bare,I.base,I.loc,I.cell,I.free,I.freeC,I.pin,I.hok,I.len⟩
theorem SP.unwish{D:Ends}{f:Flow}{s':Shared}(h:SP (X.wish E) zd D f s'):SP X zd D f s':=by
 cases f with
 |next=>obtain⟨σ',H',I,q⟩:=h;exact⟨σ',H',I.unwish,q⟩
 |brk=>obtain⟨σ',H',I,q⟩:=h;exact⟨σ',H',I.unwish,q⟩
 |cont=>obtain⟨σ',H',I,q⟩:=h;exact⟨σ',H',I.unwish,q⟩
 |ret u=>obtain⟨v,σ',H',I,r,q⟩:=h;exact⟨v,σ',H',I.unwish,r,q⟩
theorem PE.nox{e:Expr}{t:TE}(h:PE X.nox e t):PE X e t:=λzd s σ H Q I hw=>
 wpAny_mono (h zd s σ H Q (I.wish _) hw) (λ_ _ ⟨v,H',I',r,q⟩=>⟨v,H',I'.unwish,r,q⟩) λ_ _ z=>False.elim z
end
section
variable{X:Cx}{st:Stmt}{w_9:List Stmt}{t u:TS}{e:Expr}{te:TE}{pos:Pos}
def dp_0:TS:=λD σ H=>D.nx σ H
def tSeq(t u:TS):TS:=λD σ H=>t {D with nx:=u D} σ H
theorem cv_4:PSs X [] dp_0:=λ_ _ σ H _ I h=>wpAny_execs_nil ⟨σ,H,I,h⟩
theorem cj_2(h1:PS X st t)(h2:PSs X w_9 u):PSs X (st::w_9) (tSeq t u):=by
 intro zd s σ H D I h;refine wpAny_execs_cons (Aw (h1 zd s σ H {D with nx:=u D} I h) λf s1 q=> ?_);cases f with
 |next=>
  obtain⟨σ',H',I',q⟩:=q;exact h2 zd s1 σ' H' D I' q
 |ret v=>exact q
 |brk=>exact q
 |cont=>exact q
theorem bc_8(h1:PS X st t):PSs X [st] t:=by
 intro zd s σ H D I h;refine wpAny_execs_cons (Aw (h1 zd s σ H D I h) λf s1 q=> ?_);cases f with
 |next=>exact wpAny_execs_nil q
 |ret v=>exact q
 |brk=>exact q
 |cont=>exact q
theorem Inv.quiet{zd:List (Addr×Obj)}{σ:St}{H:Hp}{s:Shared}(I:Inv X zd σ H s):interactive X.env=false:=by simp [interactive,I.ok.kind]
def dp_1(te:TE):TS:=λD σ H=>te σ H λ_ H1=>D.nx σ H1
theorem u_8(he:PE X e te)(hs:swapsWith e none pos.line X.env=pure false:=by rfl):PS X (.Expr e pos) (dp_1 te):=by
 intro zd s σ H D I h;exact wpAny_Expr_any (Aw (he zd s σ H _ I h) λv s1 ⟨x,H1,I1,r1,q1⟩=>⟨σ,H1,I1,q1⟩) I.quiet hs
def tRet(te:TE):TS:=λD σ H=>te σ H D.rt
theorem bq_4(he:PE X e te):PS X (.Return (some e) pos) (tRet te):=by
 intro zd s σ H D I h;exact wpAny_Return_some (Aw (he zd s σ H _ I h) λv s1 ⟨x,H1,I1,r1,q1⟩=>⟨x,σ,H1,I1,r1,q1⟩)
def tIfS(c:TT)(t u:TS):TS:=λD σ H=>c σ H λb H1=>if b=true then t D σ H1 else u D σ H1
theorem de_7{c:Expr}{a b:List Stmt}{tc:TT}(hc:PT X c tc)(ha:PSs X a t)(hb:PSs X b u):PS X (.If c a b pos) (tIfS tc t u):=by
 intro zd s σ H D I h;refine wpAny_If (Aw (hc zd s σ H _ I h) λd s1 ⟨H1,I1,q1⟩=> ?_);cases d with
 |true=>exact ha zd s1 σ H1 D I1 q1
 |false=>exact hb zd s1 σ H1 D I1 q1
end
abbrev TG:=V->St->Hp->(St->Hp->Prop)->Prop
abbrev TGs:=List V->St->Hp->(St->Hp->Prop)->Prop
def PG(X:Cx)(target:Expr)(t:TG):Prop:=
 ∀(zd:List (Addr×Obj)) (s:Shared) (σ:St) (H:Hp) (v:V) (u:Value) (Q:St->Hp->Prop),Inv X zd σ H s->RelV v u->t v σ H Q->
  wpAny (model X.prog X.w) X.A (assign target X.env u) (λ_ s'=>∃σ' H',Inv X zd σ' H' s'/\Q σ' H') X.xe s
def PGs(X:Cx)(ts:List Expr)(t:TGs):Prop:=
 ∀(zd:List (Addr×Obj)) (s:Shared) (σ:St) (H:Hp) (vs:List V) (us:List Value) (Q:St->Hp->Prop),Inv X zd σ H s->Vals vs us->t vs σ H Q->
  wpAny (model X.prog X.w) X.A (assignInOrder ((assignEach ts X.env).map (·.2)) us) (λ_ s'=>∃σ' H',Inv X zd σ' H' s'/\Q σ' H') X.xe s
section
variable{X:Cx}{pos:Pos}
def bw_5(i:Nat):TG:=λv σ H Q=>Q (σ.set i (some v)) H
theorem l_6{i:Nat}{x:Str}(hN:X.N.Nodup)(hi:X.N[i]? =some x)(hx:Fb X.env.scope x)(hf:X.fn x=true\/X.env.scope.names.lookup x=some .local:=by first|exact .inl rfl|exact .inr rfl|assumption):PG X (.Name x pos) (bw_5 i):=by
 intro zd s σ H v u Q I r h;exact wpAny_assign_Name (ap_8 I hN hi hx r (λs' I'=>⟨_,H,I',h⟩) hf)
def gNil:TGs:=λvs σ H Q=>vs= []/\Q σ H
def dp_2(t:TG)(u:TGs):TGs:=λvs σ H Q=>∃v r,vs=v::r/\t v σ H λ σ' H'=>u r σ' H' Q
theorem ad_7:PGs X [] gNil:=by
 intro zd s σ H vs us Q I r h;obtain⟨e,h⟩:=h;subst e;cases r;exact assignInOrder_nil ⟨σ,H,I,h⟩
theorem l_1{e:Expr}{es:List Expr}{t:TG}{u:TGs}(h1:PG X e t)(h2:PGs X es u)
  (hs:(assignEach (e::es) X.env).map (·.2)=assign e X.env::(assignEach es X.env).map (·.2):=by rfl):PGs X (e::es) (dp_2 t u):=by
 intro zd s σ H vs us Q I r h;obtain⟨v,vr,e1,h⟩:=h;subst e1;cases r with
 |cons r rr=>
  rw [hs];refine assignInOrder_cons (Aw (h1 zd s σ H _ _ _ I r h) λ_ s1 ⟨σ1,H1,I1,q1⟩=> ?_);exact h2 zd s1 σ1 H1 _ _ Q I1 rr q1
def gTup(K:Frag)(n:Nat)(t:TGs):TG:=λv σ H Q=>∃a xs,v=.ref a/\SqT K H a xs/\xs.length=n/\t xs σ H Q
theorem bq_5{es:List Expr}{k:Nat}{t:TGs}{n:Nat}(hc:X.calm=true)(h:PGs X es t)
  (hn:(assignEach es X.env).length=n:=by rfl) (hst:(assignEach es X.env).findIdx? (·.1)=none:=by rfl):PG X (.Tuple es k pos) (gTup X.K n t):=by
 intro zd s σ H v u Q I r hw;obtain⟨a,xs,e1,hq,hl,hw⟩:=hw;subst e1;cases r;obtain⟨its,rv,ht,hz⟩:=I.tuple hq;refine assign_Tuple_tuple (I.ok.hd hc) ht (by simp [hn,<-hl,rv.length]) hst λh' hx=> ?_;have I1:Inv X zd σ H {s with heap:=h'}:=I.kept (t':=s.toks) λb o e=>hx b o (Nat.ne_of_lt (Heap.lt_size e)) e;exact h zd _ σ H xs _ Q I1 (by simpa using rv) hw
def tAsg(te:TE)(g:TG):TS:=λD σ H=>te σ H λx H1=>g x σ H1 D.nx
theorem cj_3{tg e:Expr}{te:TE}{g:TG}(he:PE X e te)(hg:PG X tg g)(hs:swapsWithSole [tg] e pos.line X.env=pure false:=by rfl)(hw:swappedStores [tg] e X.env=pure none:=by rfl)
  (h1:(assignEach [tg] X.env).map (·.2)= [assign tg X.env]:=by rfl):PS X (.Assign [tg] e pos) (tAsg te g):=by
 intro zd s σ H D I h;refine wpAny_Assign_stores (Aw (he zd s σ H _ I h) λv s1 ⟨x,H1,I1,r1,q1⟩=> ?_) hs hw;rw [h1];exact Aw (hg zd s1 σ H1 x v _ I1 r1 q1) λ_ s2 q=>q
theorem bq_6{i:Nat}{x:Str}{e:Expr}{te:TE}{pos':Pos}(hN:X.N.Nodup)(hi:X.N[i]? =some x)(hx:Fb X.env.scope x)(he:PE X e te)(hs:swapsWith e (some (.Name x pos')) pos.line X.env=pure false:=by rfl)(hf:X.fn x=true\/X.env.scope.names.lookup x=some .local:=by first|exact .inl rfl|exact .inr rfl|assumption):
  PS X (.Assign [.Name x pos'] e pos) (tAsg te (bw_5 i)):=by
 intro zd s σ H D I h;refine wpAny_Assign_Name (Aw (he zd s σ H _ I h) λv s1 ⟨y,H1,I1,r1,q1⟩=> ?_) hs;exact ap_8 I1 hN hi hx r1 (λs2 I2=>⟨_,H1,I2,q1⟩) hf
end
section
variable{X:Cx}{pos:Pos}
def dh_8(c:TT)(tb:TS):TS:=λD σ H=>∃W:Nat->St->Hp->Prop,(∃m,W m σ H)/\∀m σ H,W m σ H->
 c σ H λb H1=>if b=true then∃N:St->Hp->Prop,(∀σ' H',N σ' H'->∃m',m' < m/\W m' σ' H')/\tb {D with nx:=N,ct:=N,bk:=D.nx} σ H1 else D.nx σ H1
theorem cj_4{c:Expr}{body:List Stmt}{tc:TT}{tb:TS}(hp:PassesOwn (model X.prog X.w) X.A X.env X.xe)(hc:PT X c tc)(hb:PSs X body tb):PS X (.While c body [] pos) (dh_8 tc tb):=by
 intro zd s σ H D I h;obtain⟨W,⟨m0,w0⟩,turn⟩:=h;refine wpAny_While (codeAny_whileLoop (λn s'=>∃σ' H',Inv X zd σ' H' s'/\W n σ' H') ?_ m0 ⟨σ,H,I,w0⟩)
 rintro n s1 ⟨σ1,H1,I1,w1⟩
 refine wpAny_passesOwn hp (Aw (hc zd s1 σ1 H1 _ I1 (turn n σ1 H1 w1)) λb s2 ⟨H2,I2,q2⟩=> ?_);cases b with
 |true=>
  obtain⟨N,hN,q2⟩:=q2;rw [if_pos rfl];refine wpAny_passesOwn hp (Aw (hb zd s2 σ1 H2 _ I2 q2) λf s3 q3=> ?_);cases f with
  |next=>
   obtain⟨σ3,H3,I3,n3⟩:=q3;obtain⟨m',hm,w3⟩:=hN σ3 H3 n3;exact⟨m',hm,σ3,H3,I3,w3⟩
  |cont=>
   obtain⟨σ3,H3,I3,n3⟩:=q3;obtain⟨m',hm,w3⟩:=hN σ3 H3 n3;exact⟨m',hm,σ3,H3,I3,w3⟩
  |brk=>exact q3
  |ret v=>exact q3
 |false=>
  rw [if_neg Bool.false_ne_true];exact wpAny_execs_nil ⟨σ1,H2,I2,q2⟩
end
structure It where
 go:Nat->Hp->Prop
 yld:Nat->Hp->V->Hp->Prop
 stop:Nat->Hp->Prop
def u_9(X:Cx)(zd:List (Addr×Obj))(H:Hp)(b:Addr):Prop:=
 H b=none/\b≠X.env.locals/\b∉X.fs/\(b∈X.ex\/X.s₀.heap.objs.size<=b)/\(∀x c,X.env.cells.lookup x=some c->c≠b)/\∀p∈X.pn ++ zd,p.1≠b
theorem Inv.fpOk{X:Cx}{zd:List (Addr×Obj)}{σ:St}{H H':Hp}{s:Shared}{b:Addr}(I:Inv X zd σ H s)(hb:s.heap.objs.size<=b)(hn:H' b=none):u_9 X zd H' b:=by
 refine⟨hn,Nat.ne_of_gt (Nat.lt_of_lt_of_le I.lt hb),I.nofs hb,.inr (Nat.le_trans I.sz hb),λx c e z=> ?_,λp hp z=> ?_⟩
 ·obtain⟨v,q⟩:=I.cell x c e;exact absurd (Nat.lt_of_lt_of_le q.lt (by rw [z];exact hb)) (Nat.lt_irrefl _)
 ·exact absurd (Nat.lt_of_lt_of_le (Heap.lt_size (I.pin p hp).1) (by rw [z];exact hb)) (Nat.lt_irrefl _)
structure Turn(P:Program)(w:World)(K:Frag)(tg:Expr)(J:It)(fp:List Addr)(it:Addr)(tn:Nat->Heap->Prop):Prop where
 mem:it∈fp
 obj:∀i h,tn i h->∀b∈fp,∃o,h.get? b=some o/\∀v,o.data≠ .cell v
 keep:∀i h h',tn i h->(∀b∈fp,∀o,h.get? b=some o->h'.get? b=some o)->tn i h'
 item:∀(X:Cx),X.prog=P->X.w=w->X.K=K->X.calm=true->∀(i:Nat) (zd:List (Addr×Obj)) (s:Shared) (σ:St) (H:Hp) (E:Value->Shared->Prop),Inv X zd σ H s->(∀b∈fp,u_9 X zd H b)->tn i s.heap->J.go i H->
  wpAny (model P w) X.A (pyNext (.ref it)) (λr s1=>∃u,r=some u/\
   wpAny (model P w) X.A (letOwnedTupleGo tg (.ref it) u) (λ_ s2=>∃x H',Inv X zd σ H' s2/\RelV x u/\J.yld i H x H'/\tn (i + 1) s2.heap/\∀b∈fp,H' b=none) E s1) E s
 done:∀(X:Cx),X.prog=P->X.w=w->X.K=K->X.calm=true->∀(i:Nat) (zd:List (Addr×Obj)) (s:Shared) (σ:St) (H:Hp) (E:Value->Shared->Prop),Inv X zd σ H s->(∀b∈fp,u_9 X zd H b)->tn i s.heap->J.stop i H->
  wpAny (model P w) X.A (pyNext (.ref it)) (λr s1=>r=none/\Inv X zd σ H s1) E s
 self:∀(A:Around) (i:Nat) (s:Shared) (Q:Value->Shared->Prop) (E:Value->Shared->Prop),tn i s.heap->Q (.ref it) s->wpAny (model P w) A (pyIter (.ref it)) Q E s
abbrev TI:=St->Hp->(It->Hp->Prop)->Prop
def PIE(X:Cx)(zd:List (Addr×Obj))(σ:St)(tg:Expr)(R:It->Hp->Prop)(itv:Value)(s2:Shared):Prop:=
 ∃(it:Addr) (fp:List Addr) (tn:Nat->Heap->Prop) (J:It) (H':Hp),itv=.ref it/\Inv X zd σ H' s2/\Turn X.prog X.w X.K tg J fp it tn/\tn 0 s2.heap/\(∀b∈fp,u_9 X zd H' b)/\R J H'
def PI(X:Cx)(tg iter:Expr)(wi:TI):Prop:=
 ∀(zd:List (Addr×Obj)) (s:Shared) (σ:St) (H:Hp) (R:It->Hp->Prop),Inv X zd σ H s->wi σ H R->
  wpAny (model X.prog X.w) X.A (eval iter X.env) (λv s1=>wpAny (model X.prog X.w) X.A (pyIter v) (PIE X zd σ tg R) X.xe s1) X.xe s
theorem bi_4{M:Model}{A:Around}{E:Value->Shared->Prop}{s:Shared}{tg:Expr}{it:Addr}{u:Value}{o:Obj}{n:String}{vs:Array Value}{Q:Unit->Shared->Prop}(ho:s.heap.get? it=some o)(hc:o.cls=.type n)(hd:o.data=.fields vs)
  (hn: ["enumerate","zip","dict_itemiterator","dict_reverseitemiterator","odict_iterator","itertools.zip_longest","itertools.pairwise"].contains n=false) (hQ:Q () s):wpAny M A (letOwnedTupleGo tg (.ref it) u) Q E s:=by
 unfold letOwnedTupleGo;cases tg <;> first
  |exact wpAny_pure hQ
  | (cases u <;> first
    |exact wpAny_pure hQ
    | (refine wpAny_bind (wpAny_load ho ?_)
       rw [hc,hd];show wpAny M A (if(["enumerate","zip","dict_itemiterator","dict_reverseitemiterator","odict_iterator","itertools.zip_longest","itertools.pairwise"].contains n && vs[0]? ==some (rawInt _))=true then _ else _) Q E s;rw [if_neg (by intro h;rw [hn,Bool.false_and] at h;cases h)];exact wpAny_pure hQ))
def Itl(K:Frag)(a:Addr):It:=
 ⟨λi H=>∃xs x,SqL K H a xs/\xs[i]? =some x,λi H x H'=>H'=H/\∀xs,SqL K H a xs->xs[i]? =some x,λi H=>∃xs,SqL K H a xs/\xs.length<=i⟩
def Itt(K:Frag)(a:Addr):It:=
 ⟨λi H=>∃xs x,SqT K H a xs/\xs[i]? =some x,λi H x H'=>H'=H/\∀xs,SqT K H a xs->xs[i]? =some x,λi H=>∃xs,SqT K H a xs/\xs.length<=i⟩
def Itr(lo:Int)(n:Nat):It:=⟨λi _=>i < n,λi H x H'=>H'=H/\x=.int (lo + i),λi _=>n<=i⟩
theorem cd_3{P:Program}{w:World}{K:Frag}{tg:Expr}(a it:Addr):Turn P w K tg (Itl K a) [it] it (λi h=>h.IsListIter it a i) where
 mem:=by simp
 obj:=λi h st b hb=>by
  have e:b=it:=by simpa using hb
  subst e;obtain⟨o,e,c,d⟩:=st;exact⟨o,e,λv z=>by rw [d] at z;cases z⟩
 keep:=λi h h' st k=>st.at λo e=>k it (by simp) o e
 item:=by
  intro X hP hw hK hc i zd s σ H E I hf st hg;subst hP hw hK;obtain⟨xs,x,hq,hx⟩:=hg;obtain⟨its,rv,p,hz⟩:=I.list hq;obtain⟨u,hu,ru⟩:=rv.get hx;obtain⟨f0,f1,f2,f3,f4,f5⟩:=hf it (by simp);refine wpAny_pyNext_list_item st p.isList (x:=u) (by simpa using hu) λh' st' sb=> ?_;have I1:Inv X zd σ H {s with heap:=h'}:=I.turned (t':=s.toks) (λb o hb e=>(sb.2 b hb).trans e) f0 f1 f3 f4 f5;obtain⟨o,e,c,d⟩:=id st';exact⟨u,rfl,bi_4 (s:={s with heap:=h'}) e c d (by decide) ⟨x,H,I1,ru,⟨rfl,λys hy=>by rw [I.list_inj hy hq];exact hx⟩,st',λb hb=>(hf b hb).1⟩⟩
 done:=by
  intro X hP hw hK hc i zd s σ H E I hf st hg;subst hP hw hK;obtain⟨xs,hq,hx⟩:=hg;obtain⟨its,rv,p,hz⟩:=I.list hq;obtain⟨f0,f1,f2,f3,f4,f5⟩:=hf it (by simp);have hl:=rv.length;exact wpAny_pyNext_list_end (I.ok.hd hc) st p.isList (by simp;omega) λh' eb=>⟨rfl,I.turned (t':=s.toks) (λb o hb e=>eb b o hb e) f0 f1 f3 f4 f5⟩
 self:=λ_ _ _ _ _ st h=>wpAny_pyIter_listiter st h
theorem bq_7{P:Program}{w:World}{K:Frag}{tg:Expr}(a it:Addr):Turn P w K tg (Itt K a) [it] it (λi h=>h.IsTupleIter it a i) where
 mem:=by simp
 obj:=λi h st b hb=>by
  have e:b=it:=by simpa using hb
  subst e;obtain⟨o,e,c,d⟩:=st;exact⟨o,e,λv z=>by rw [d] at z;cases z⟩
 keep:=λi h h' st k=>st.at λo e=>k it (by simp) o e
 item:=by
  intro X hP hw hK hc i zd s σ H E I hf st hg;subst hP hw hK;obtain⟨xs,x,hq,hx⟩:=hg;obtain⟨its,rv,p,hz⟩:=I.tuple hq;obtain⟨u,hu,ru⟩:=rv.get hx;obtain⟨f0,f1,f2,f3,f4,f5⟩:=hf it (by simp);refine wpAny_pyNext_tuple_item st (show s.heap.IsTuple a its.toArray from p) (x:=u) (by simpa using hu) λh' st' sb=> ?_;have I1:Inv X zd σ H {s with heap:=h'}:=I.turned (t':=s.toks) (λb o hb e=>(sb.2 b hb).trans e) f0 f1 f3 f4 f5;obtain⟨o,e,c,d⟩:=id st';exact⟨u,rfl,bi_4 (s:={s with heap:=h'}) e c d (by decide) ⟨x,H,I1,ru,⟨rfl,λys hy=>by rw [I.tuple_inj hy hq];exact hx⟩,st',λb hb=>(hf b hb).1⟩⟩
 done:=by
  intro X hP hw hK hc i zd s σ H E I hf st hg;subst hP hw hK;obtain⟨xs,hq,hx⟩:=hg;obtain⟨its,rv,p,hz⟩:=I.tuple hq;obtain⟨f0,f1,f2,f3,f4,f5⟩:=hf it (by simp);have hl:=rv.length;exact wpAny_pyNext_tuple_end (I.ok.hd hc) st (show s.heap.IsTuple a its.toArray from p) (by simp;omega) λh' eb=>⟨rfl,I.turned (t':=s.toks) (λb o hb e=>eb b o hb e) f0 f1 f3 f4 f5⟩
 self:=λ_ _ _ _ _ st h=>wpAny_pyIter_tupleiter st h
theorem bq_8{P:Program}{w:World}{K:Frag}{tg:Expr}(it:Addr)(lo:Int)(n:Nat):Turn P w K tg (Itr lo n) [it] it (λi h=>IsRangeIter h it (lo + (i:Nat) * 1) ((n:Int) - (i:Nat)) 1) where
 mem:=by simp
 obj:=λi h st b hb=>by
  have e:b=it:=by simpa using hb
  subst e;exact⟨_,st,λv z=>by
   have z':Data.fields _=Data.cell v:=z;cases z'⟩
 keep:=λi h h' st k=>k it (by simp) _ st
 item:=by
  intro X hP hw hK hc i zd s σ H E I hf st hg;subst hP hw hK;obtain⟨f0,f1,f2,f3,f4,f5⟩:=hf it (by simp);have W:=Walks.range (prog:=X.prog) (w:=X.w) (I.ok.hd hc) it lo 1 n;refine W.item i s _ _ hg st λv h' tk hv st' kk=> ?_;obtain⟨t,rfl⟩:=hv;have I1:Inv X zd σ H {s with heap:=h',toks:=tk}:=I.turned (λb o hb e=>kk b o (by simpa using hb) e) f0 f1 f3 f4 f5;refine⟨_,rfl,bi_4 (s:={s with heap:=h',toks:=tk}) (n:= "range_iterator") st' rfl rfl (by decide) ⟨.int (lo + i),H,I1,⟨t, ?_⟩,⟨rfl,rfl⟩,st',λb hb=>(hf b hb).1⟩⟩;rw [Int.mul_one]
 done:=by
  intro X hP hw hK hc i zd s σ H E I hf st hg;subst hP hw hK;obtain⟨f0,f1,f2,f3,f4,f5⟩:=hf it (by simp);exact wpAny_pyNext_range_end (I.ok.hd hc) st (by have:n<=i:=hg;omega) λh' eb=>⟨rfl,I.turned (t':=s.toks) (λb o hb e=>eb b o hb e) f0 f1 f3 f4 f5⟩
 self:=λ_ _ _ _ _ st h=>wpAny_pyIter_rangeiter st h
section
variable{X:Cx}{tg:Expr}
theorem cj_5{zd:List (Addr×Obj)}{σ:St}{H:Hp}{s:Shared}{R:It->Hp->Prop}{E:Value->Shared->Prop}{lo hi:Int}{t u v:Tok}{tk:Nat}(I:Inv X zd σ H s)(h1: -(2 ^ 62)<=lo)(h2:lo < 2 ^ 62)(h3: -(2 ^ 62)<=hi)(h4:hi < 2 ^ 62)
  (q:R (Itr lo (hi - lo).toNat) H):wpAny (model X.prog X.w) X.A (pyIter (.ref s.heap.objs.size)) (PIE X zd σ tg R) E {s with heap:=s.heap.push {cls:=.type "range",data:=.fields #[.int lo t,.int hi u,.int 1 v]},toks:=tk}:=by
 refine wpAny_pyIter_range (IsRange.new ..) (small_one h1 h2 h3 h4) ?_;have I1:Inv X zd σ H {s with heap:=s.heap.push {cls:=.type "range",data:=.fields #[.int lo t,.int hi u,.int 1 v]},toks:=tk}:=I.kept λb o e=>Heap.get?_push_of_some _ e;refine⟨(s.heap.push {cls:=.type "range",data:=.fields #[.int lo t,.int hi u,.int 1 v]}).objs.size,[(s.heap.push {cls:=.type "range",data:=.fields #[.int lo t,.int hi u,.int 1 v]}).objs.size],_,_,H,rfl,
  I1.kept (t':=tk) λb o e=>Heap.get?_push_of_some _ e,bq_8 _ lo (hi - lo).toNat, ?_,λb hb=> ?_,q⟩
 ·have e1:lo + ((0:Nat):Int) * 1=lo:=by simp
  have e2:(((hi - lo).toNat:Nat):Int) - ((0:Nat):Int)=Builtin.Range.rangeSize lo hi 1:=by rw [rangeSize_one];split <;> omega
  show IsRangeIter _ _ (lo + ((0:Nat):Int) * 1) ((((hi - lo).toNat:Nat):Int) - ((0:Nat):Int)) 1;rw [e1,e2];exact Heap.get?_push_size _ rfl
 ·have e:b=(s.heap.push {cls:=.type "range",data:=.fields #[.int lo t,.int hi u,.int 1 v]}).objs.size:=by simpa using hb
  subst e;exact I1.fpOk (Nat.le_refl _) (I1.hok.fresh (Nat.le_refl _))
def dp_3(ta:TA):TI:=λ σ H R=>ta σ H λvs H1=>∃j:Int,vs= [.int j]/\ -(2 ^ 62)<=j/\j < 2 ^ 62/\R (Itr 0 j.toNat) H1
theorem cd_4{a:Expr}{ta:TA}{p pos:Pos}(hg:Gl X "range")(hm:X.mg "range" =none)(ha:PA X [a] ta)(hs:starEach [a] X.env= [(false,eval a X.env)]:=by rfl):PI X tg (.Call (.Name "range" p) [a] [] pos) (dp_3 ta):=by
 intro zd s σ H R I h;refine Call_ (ac_5 I hg hm boot_range (PyProof.Rows.callWith_type1 (Aw (ha pos zd s σ H _ I h) λus s1 ⟨vs,H1,I1,r1,q1⟩=> ?_) hs rfl));obtain⟨j,e,q1,q2,q⟩:=q1;subst e;cases r1 with
 |cons r rr=>
  cases rr;obtain⟨t,rfl⟩:=r;exact call_range_1 (cj_5 I1 (by omega) (by omega) q1 q2 (by simpa using q))
def tFor(wi:TI)(g:TG)(tb:TS):TS:=λD σ H=>wi σ H λJ H1=>∃W:Nat->Nat->St->Hp->Prop,(∃m,W 0 m σ H1)/\∀i m σ H,W i m σ H->
 (J.stop i H/\D.nx σ H)\/(J.go i H/\∃N:St->Hp->Prop,(∀σ' H',N σ' H'->∃m',m' < m/\W (i + 1) m' σ' H')/\∀x H',J.yld i H x H'->g x σ H' λ σ2 H2=>tb {D with nx:=N,ct:=N,bk:=D.nx} σ2 H2)
def ap_9(fp:List Addr)(h:Heap):List (Addr×Obj):=fp.filterMap λb=>(h.get? b).map λo=>(b,o)
theorem v_0{fp:List Addr}{h:Heap}{b:Addr}{o:Obj}(hb:b∈fp)(e:h.get? b=some o):(b,o)∈ap_9 fp h:=List.mem_filterMap.mpr ⟨b,hb,by rw [e];rfl⟩
theorem cd_5{fp:List Addr}{h:Heap}{p:Addr×Obj}(hp:p∈ap_9 fp h):p.1∈fp/\h.get? p.1=some p.2:=by
 obtain⟨b,hb,e⟩:=List.mem_filterMap.mp hp;cases q:h.get? b with
 |none=>rw [q] at e;cases e
 |some o=>
  rw [q] at e;have e':(b,o)=p:=Option.some.inj e;subst e';exact⟨hb,q⟩
theorem Inv.pinned{zd:List (Addr×Obj)}{σ:St}{H:Hp}{s:Shared}{fp:List Addr}(I:Inv X zd σ H s)(hf:∀b∈fp,u_9 X zd H b)(ho:∀b∈fp,∃o,s.heap.get? b=some o/\∀v,o.data≠ .cell v):Inv X (zd ++ ap_9 fp s.heap) σ H s:=
 I.pins_of λp hp=>(List.mem_append.mp hp).elim (λz=>I.pin p (List.mem_append_right _ z)) λz=>by
  obtain⟨hb,e⟩:=cd_5 z;obtain⟨f0,f1,f2,_⟩:=hf p.1 hb;obtain⟨o,e',d⟩:=ho p.1 hb;rw [e] at e';cases e';exact⟨e,f0,f1,f2,d⟩
theorem Inv.unpinned{zd pl:List (Addr×Obj)}{σ:St}{H:Hp}{s:Shared}(I:Inv X (zd ++ pl) σ H s):Inv X zd σ H s:=I.pins_of λp hp=>I.pin p (List.mem_append_right _ (List.mem_append_left _ hp))
theorem bq_9{iter:Expr}{body:List Stmt}{wi:TI}{g:TG}{tb:TS}{pos:Pos}(hp:PassesOwn (model X.prog X.w) X.A X.env X.xe)(hc:X.calm=true)(hi:PI X tg iter wi)(hg:PG X tg g)(hb:PSs X body tb)
  (hs:∀x,foldedSetIterable iter X.env x=pure x:=by intro _;rfl):PS X (.For tg iter body [] pos) (tFor wi g tb):=by
 intro zd s σ H D I h;refine wpAny_For (Aw (hi zd s σ H _ I h) λv s1 h1=>Aw h1 λitv s2 h2=> ?_) hs;obtain⟨it,fp,tn,J,H2,e,I2,T,st2,f2,W,⟨m0,w0⟩,turn⟩:=h2;subst e
 
 have bu:∀{H':Hp},(∀b∈fp,H' b=none)->∀b∈fp,u_9 X zd H' b:=λhn b hb=>⟨hn b hb,(f2 b hb).2⟩;refine codeAny_forLoop_any (λn s'=>∃i σ' H',Inv X zd σ' H' s'/\tn i s'.heap/\(∀b∈fp,H' b=none)/\W i n σ' H') ?_ m0 ⟨0,σ,H2,I2,st2,λb hb=>(f2 b hb).1,w0⟩
 rintro n s3 ⟨i,σ3,H3,I3,st3,fr3,w3⟩
 rcases turn i n σ3 H3 w3 with⟨stop,qn⟩|⟨go,N,hN,step⟩
 ·refine wpAny_passesOwn hp (Aw (T.done X rfl rfl rfl hc i zd s3 σ3 H3 X.xe I3 (bu fr3) st3 stop) λr s4 ⟨hr,I4⟩=> ?_);subst hr;exact wpAny_execs_nil ⟨σ3,H3,I4,qn⟩
 ·refine wpAny_passesOwn hp (Aw (T.item X rfl rfl rfl hc i zd s3 σ3 H3 X.xe I3 (bu fr3) st3 go) λr s4 ⟨u,hr,h4⟩=> ?_);subst hr;refine wpAny_passesOwn hp (Aw h4 λ_ s5 ⟨x,H5,I5,r5,y5,st5,fr5⟩=> ?_);have I5':=I5.pinned (bu fr5) (T.obj _ _ st5);refine wpAny_passesOwn hp (Aw (hg _ s5 σ3 H5 x u _ I5' r5 (step x H5 y5)) λ_ s6 ⟨σ6,H6,I6,q6⟩=> ?_);refine wpAny_passesOwn hp (Aw (hb _ s6 σ6 H6 _ I6 q6) λf s7 q7=> ?_);have again:∀{σ7:St} {H7:Hp},Inv X (zd ++ ap_9 fp s5.heap) σ7 H7 s7->N σ7 H7->∃m,m < n/\∃i σ' H',Inv X zd σ' H' s7/\tn i s7.heap/\(∀b∈fp,H' b=none)/\W i m σ' H':=λ{σ7 H7} I7 n7=>by
   obtain⟨m',hm,w7⟩:=hN σ7 H7 n7;refine⟨m',hm,i + 1,σ7,H7,I7.unpinned,T.keep _ _ _ st5 λb hb o e=>(I7.pin (b,o) (List.mem_append_right _ (List.mem_append_right _ (v_0 hb e)))).1,λb hb=> ?_,w7⟩;obtain⟨o,e,d⟩:=T.obj _ _ st5 b hb;exact(I7.pin (b,o) (List.mem_append_right _ (List.mem_append_right _ (v_0 hb e)))).2.1
  cases f with
  |next=>obtain⟨σ7,H7,I7,n7⟩:=q7;exact again I7 n7
  |cont=>obtain⟨σ7,H7,I7,n7⟩:=q7;exact again I7 n7
  |brk=>obtain⟨σ7,H7,I7,q7⟩:=q7;exact⟨σ7,H7,I7.unpinned,q7⟩
  |ret v=>obtain⟨x7,σ7,H7,I7,r7,q7⟩:=q7;exact⟨x7,σ7,H7,I7.unpinned,r7,q7⟩
end
abbrev R2:=V->V->Hp->VK->Prop
def OpR(X:Cx)(f:Value->Value->Sem Value)(r:R2):Prop:=
 ∀(zd:List (Addr×Obj)) (s:Shared) (σ:St) (H:Hp) (x y:V) (v u:Value) (Q:VK),Inv X zd σ H s->RelV x v->RelV y u->r x y H Q->
  wpAny (model X.prog X.w) X.A (f v u) (EP X zd σ Q) X.xe s
def UnR(X:Cx)(f:Value->Sem Value)(r:V->Hp->VK->Prop):Prop:=
 ∀(zd:List (Addr×Obj)) (s:Shared) (σ:St) (H:Hp) (x:V) (v:Value) (Q:VK),Inv X zd σ H s->RelV x v->r x H Q->
  wpAny (model X.prog X.w) X.A (f v) (EP X zd σ Q) X.xe s
def CallR(X:Cx)(f:Value)(r:List V->Hp->VK->Prop):Prop:=
 ∀(zd:List (Addr×Obj)) (s:Shared) (σ:St) (H:Hp) (xs:List V) (us:List Value) (Q:VK),Inv X zd σ H s->Vals xs us->r xs H Q->
  wpAny (model X.prog X.w) X.A (call f us) (EP X zd σ Q) X.xe s
def TruR(X:Cx)(r:V->Hp->(Bool->Hp->Prop)->Prop):Prop:=
 ∀(zd:List (Addr×Obj)) (s:Shared) (σ:St) (H:Hp) (x:V) (v:Value) (Q:Bool->Hp->Prop),Inv X zd σ H s->RelV x v->r x H Q->
  wpAny (model X.prog X.w) X.A (truthy v) (TP X zd σ Q) X.xe s
def tOp(r:R2)(ta tb:TE):TE:=λ σ H Q=>ta σ H λx H1=>tb σ H1 λy H2=>r x y H2 Q
def tUn(r:V->Hp->VK->Prop)(ta:TE):TE:=λ σ H Q=>ta σ H λx H1=>r x H1 Q
def rI(C:Int->Int->Prop)(g:Int->Int->V):R2:=λx y H Q=>∃i j,x=.int i/\y=.int j/\C i j/\Q (g i j) H
def rI0(g:Int->Int->V):R2:=λx y H Q=>∃i j,x=.int i/\y=.int j/\Q (g i j) H
def rU(g:Int->V):V->Hp->VK->Prop:=λx H Q=>∃i,x=.int i/\Q (g i) H
section
variable{X:Cx}{a b c:Expr}{ta tb tc:TE}{pos:Pos}
theorem binT(ha:PE X a ta)(hb:PE X b tb){zd:List (Addr×Obj)}{s:Shared}{σ:St}{H:Hp}{R:V->V->Hp->Prop}(I:Inv X zd σ H s)
  (h:ta σ H λx H1=>tb σ H1 λy H2=>R x y H2) {Q:Value->Shared->Prop} {f:Value->Value->Sem Value}
  (hf:∀v u s2 x y H2,Inv X zd σ H2 s2->RelV x v->RelV y u->R x y H2->wpAny (model X.prog X.w) X.A (f v u) Q X.xe s2):
  wpAny (model X.prog X.w) X.A (eval a X.env) (λv s₁=>wpAny (model X.prog X.w) X.A (eval b X.env) (λu s₂=>wpAny (model X.prog X.w) X.A (f v u) Q X.xe s₂) X.xe s₁) X.xe s:=by
 refine Aw (ha zd s σ H _ I h) λv s1 ⟨x,H1,I1,r1,q1⟩=> ?_;refine Aw (hb zd s1 σ H1 _ I1 q1) λu s2 ⟨y,H2,I2,r2,q2⟩=> ?_;exact hf v u s2 x y H2 I2 r1 r2 q2
theorem de_8{op:Operator}{r:R2}(ho:OpR X (binaryOp op) r)(ha:PE X a ta)(hb:PE X b tb):PE X (.BinOp a op b pos) (tOp r ta tb):=by
 intro zd s σ H Q I h;exact wpAny_BinOp (binT ha hb I h λv u s2 x y H2 I2 rx ry q=>ho zd s2 σ H2 x y v u Q I2 rx ry q)
theorem dp_5{op:UnaryOp}{r:V->Hp->VK->Prop}(ho:UnR X (unaryOp op) r)(ha:PE X a ta):PE X (.UnaryOp op a pos) (tUn r ta):=by
 intro zd s σ H Q I h;exact UnaryOp_ (Aw (ha zd s σ H _ I h) λv s1 ⟨x,H1,I1,r1,q1⟩=>ho zd s1 σ H1 x v Q I1 r1 q1)
theorem opI{f:Value->Value->Sem Value}{C:Int->Int->Prop}{g:Int->Int->Int}
  (rule:∀(i j:Int) (t u:Tok) (s:Shared) (Q:Value->Shared->Prop) (E:Value->Shared->Prop),C i j->Q (.int (g i j) s.toks) {s with toks:=s.toks + 1}->wpAny (model X.prog X.w) X.A (f (.int i t) (.int j u)) Q E s):
  OpR X f (rI C λi j=> .int (g i j)):=by
 intro zd s σ H x y v u Q I rx ry h;obtain⟨i,j,rfl,rfl,hc,q⟩:=h;obtain⟨t,rfl⟩:=rx;obtain⟨t',rfl⟩:=ry;exact rule i j t t' s _ _ hc ⟨.int (g i j),H,I.tok _,⟨_,rfl⟩,q⟩
theorem opI0{f:Value->Value->Sem Value}{g:Int->Int->Int}
  (rule:∀(i j:Int) (t u:Tok) (s:Shared) (Q:Value->Shared->Prop) (E:Value->Shared->Prop),Q (.int (g i j) s.toks) {s with toks:=s.toks + 1}->wpAny (model X.prog X.w) X.A (f (.int i t) (.int j u)) Q E s):
  OpR X f (rI0 λi j=> .int (g i j)):=by
 intro zd s σ H x y v u Q I rx ry h;obtain⟨i,j,rfl,rfl,q⟩:=h;obtain⟨t,rfl⟩:=rx;obtain⟨t',rfl⟩:=ry;exact rule i j t t' s _ _ ⟨.int (g i j),H,I.tok _,⟨_,rfl⟩,q⟩
theorem opB0{f:Value->Value->Sem Value}{g:Int->Int->Bool}
  (rule:∀(i j:Int) (t u:Tok) (s:Shared) (Q:Value->Shared->Prop) (E:Value->Shared->Prop),Q (.bool (g i j)) s->wpAny (model X.prog X.w) X.A (f (.int i t) (.int j u)) Q E s):
  OpR X f (rI0 λi j=> .bl (g i j)):=by
 intro zd s σ H x y v u Q I rx ry h;obtain⟨i,j,rfl,rfl,q⟩:=h;obtain⟨t,rfl⟩:=rx;obtain⟨t',rfl⟩:=ry;exact rule i j t t' s _ _ ⟨.bl (g i j),H,I,rfl,q⟩
def CPow(i j:Int):Prop:=0<=j/\j<=1000000/\i.natAbs < 2 ^ 64
def CMul(i j:Int):Prop:=(-(2 ^ 64) < i/\i < 2 ^ 64)\/(-(2 ^ 64) < j/\j < 2 ^ 64)
theorem CMul.ok{i j:Int}(h:CMul i j):IntMulOk i j:=by
 rcases h with⟨h1,h2⟩|⟨h1,h2⟩
 ·exact .of_left (intBits_le_64 h1 h2)
 ·exact .of_right (intBits_le_64 h1 h2)
theorem di_1:OpR X (binaryOp .Add) (rI0 λi j=> .int (i + j)):=opI0 λ_ _ _ _ _ _ _ q=>add_int q
theorem di_2:OpR X (binaryOp .Mult) (rI CMul λi j=> .int (i * j)):=opI λ_ _ _ _ _ _ _ hc q=>mul_int q hc.ok
theorem di_3:OpR X (binaryOp .Mod) (rI (λ_ j=>0 < j) λi j=> .int (i % j)):=opI λi j _ _ _ _ _ hc q=>by
 have h1:(0:Int) < j:=hc;exact mod_int' (by omega) (by rw [Int.fmod_eq_emod_of_nonneg i (by omega)];exact q)
theorem di_4:OpR X (binaryOp .Pow) (rI CPow λi j=> .int (i ^ j.toNat)):=opI λ_ _ _ _ _ _ _ hc q=>pow_int_small hc.1 hc.2.1 hc.2.2 q
theorem unI{f:Value->Sem Value}{g:Int->Int}
  (rule:∀(i:Int) (t:Tok) (s:Shared) (Q:Value->Shared->Prop) (E:Value->Shared->Prop),Q (.int (g i) s.toks) {s with toks:=s.toks + 1}->wpAny (model X.prog X.w) X.A (f (.int i t)) Q E s):
  UnR X f (rU λi=> .int (g i)):=by
 intro zd s σ H x v Q I rx h;obtain⟨i,rfl,q⟩:=h;obtain⟨t,rfl⟩:=rx;exact rule i t s _ _ ⟨.int (g i),H,I.tok _,⟨_,rfl⟩,q⟩
theorem di_5:UnR X (unaryOp .USub) (rU λi=> .int (-i)):=unI λ_ _ _ _ _ q=>neg_int q
end
def scal:V->V->Bool
 | .non,.non=>true| .non,.int _=>true| .int _,.non=>true| .non,.bl _=>true| .bl _,.non=>true| .non,.str _=>true| .str _,.non=>true
 | .int _,.int _=>true| .bl _,.bl _=>true| .str _,.str _=>true| .byt _,.byt _=>true
 | .int _,.str _=>true| .str _,.int _=>true| .bl _,.str _=>true| .str _,.bl _=>true
 |_,_=>false
def rEq:R2:=λx y H Q=>scal x y=true/\Q (.bl (decide (x=y))) H
def rNe:R2:=λx y H Q=>scal x y=true/\Q (.bl (!decide (x=y))) H
theorem bw_6{i j:Int}:decide (V.int i=V.int j)=(i ==j):=by
 rw [Bool.eq_iff_iff];simp
theorem cj_6{i j:Bool}:decide (V.bl i=V.bl j)=(i ==j):=by
 rw [Bool.eq_iff_iff];simp
theorem bw_7{i j:Str}:decide (V.str i=V.str j)=(i ==j):=by
 rw [Bool.eq_iff_iff];simp
theorem bw_8{i j:Array UInt8}:decide (V.byt i=V.byt j)=(i.toList ==j.toList):=by
 rw [Bool.eq_iff_iff];cases i;cases j;simp
section
variable{X:Cx}{a b c:Expr}{ta tb tc:TE}{pos:Pos}
theorem Cw{zd:List (Addr×Obj)}{σ:St}{H:Hp}{s:Shared}{Q:VK}{k k':Bool}(I:Inv X zd σ H s)(q:Q (.bl k) H)(e:k=k'):EP X zd σ Q (.bool k') s:=by
 subst e;exact⟨.bl k,H,I,rfl,q⟩
theorem dp_8:OpR X (compareOp .Eq) rEq:=by
 intro zd s σ H x y v u Q I rx ry h;obtain⟨hs,q⟩:=h;cases x with
 |non=>
  cases rx;cases y with
  |non=>cases ry;exact PySem.EqNone.eq_none_none (Cw I q (by simp))
  |bl j=>cases ry;exact PySem.EqNone.eq_none_bool (Cw I q (by simp))
  |int j=>obtain⟨t',rfl⟩:=ry;exact PySem.EqNone.eq_none_int (Cw I q (by simp))
  |str j=>obtain⟨t',rfl⟩:=ry;exact PySem.EqNone.eq_none_str (Cw I q (by simp))
  |_=>exact absurd (show false=true from hs) Bool.false_ne_true
 |bl i=>
  cases rx;cases y with
  |non=>cases ry;exact PySem.EqNone.eq_bool_none (Cw I q (by simp))
  |bl j=>cases ry;exact eq_bool (Cw I q cj_6)
  |str j=>obtain⟨t',rfl⟩:=ry;exact PySem.EqMixed.eq_bool_str (Cw I q (by simp))
  |_=>exact absurd (show false=true from hs) Bool.false_ne_true
 |int i=>
  obtain⟨t,rfl⟩:=rx;cases y with
  |non=>cases ry;exact PySem.EqNone.eq_int_none (Cw I q (by simp))
  |int j=>obtain⟨t',rfl⟩:=ry;exact eq_int (Cw I q bw_6)
  |str j=>obtain⟨t',rfl⟩:=ry;exact PySem.EqMixed.eq_int_str (Cw I q (by simp))
  |_=>exact absurd (show false=true from hs) Bool.false_ne_true
 |str i=>
  obtain⟨t,rfl⟩:=rx;cases y with
  |non=>cases ry;exact PySem.EqNone.eq_str_none (Cw I q (by simp))
  |bl j=>cases ry;exact PySem.EqMixed.eq_str_bool (Cw I q (by simp))
  |int j=>obtain⟨t',rfl⟩:=ry;exact PySem.EqMixed.eq_str_int (Cw I q (by simp))
  |str j=>obtain⟨t',rfl⟩:=ry;exact eq_str (Cw I q bw_7)
  |_=>exact absurd (show false=true from hs) Bool.false_ne_true
 |byt i=>
  obtain⟨t,rfl⟩:=rx;cases y with
  |byt j=>obtain⟨t',rfl⟩:=ry;exact eq_bytes (Cw I q bw_8)
  |_=>exact absurd (show false=true from hs) Bool.false_ne_true
 |_=>cases y <;> exact absurd (show false=true from hs) Bool.false_ne_true
theorem dp_9:OpR X (compareOp .NotEq) rNe:=by
 intro zd s σ H x y v u Q I rx ry h;obtain⟨hs,q⟩:=h;cases x with
 |non=>
  cases rx;cases y with
  |non=>cases ry;exact PySem.EqNone.ne_none_none (Cw I q (by simp))
  |bl j=>cases ry;exact PySem.EqNone.ne_none_bool (Cw I q (by simp))
  |int j=>obtain⟨t',rfl⟩:=ry;exact PySem.EqNone.ne_none_int (Cw I q (by simp))
  |str j=>obtain⟨t',rfl⟩:=ry;exact PySem.EqNone.ne_none_str (Cw I q (by simp))
  |_=>exact absurd (show false=true from hs) Bool.false_ne_true
 |bl i=>
  cases rx;cases y with
  |non=>cases ry;exact PySem.EqNone.ne_bool_none (Cw I q (by simp))
  |bl j=>cases ry;exact ne_bool (Cw I q (congrArg not cj_6))
  |str j=>obtain⟨t',rfl⟩:=ry;exact PySem.EqMixed.ne_bool_str (Cw I q (by simp))
  |_=>exact absurd (show false=true from hs) Bool.false_ne_true
 |int i=>
  obtain⟨t,rfl⟩:=rx;cases y with
  |non=>cases ry;exact PySem.EqNone.ne_int_none (Cw I q (by simp))
  |int j=>obtain⟨t',rfl⟩:=ry;exact ne_int (Cw I q (congrArg not bw_6))
  |str j=>obtain⟨t',rfl⟩:=ry;exact PySem.EqMixed.ne_int_str (Cw I q (by simp))
  |_=>exact absurd (show false=true from hs) Bool.false_ne_true
 |str i=>
  obtain⟨t,rfl⟩:=rx;cases y with
  |non=>cases ry;exact PySem.EqNone.ne_str_none (Cw I q (by simp))
  |bl j=>cases ry;exact PySem.EqMixed.ne_str_bool (Cw I q (by simp))
  |int j=>obtain⟨t',rfl⟩:=ry;exact PySem.EqMixed.ne_str_int (Cw I q (by simp))
  |str j=>obtain⟨t',rfl⟩:=ry;exact ne_str (Cw I q (congrArg not bw_7))
  |_=>exact absurd (show false=true from hs) Bool.false_ne_true
 |byt i=>
  obtain⟨t,rfl⟩:=rx;cases y with
  |byt j=>obtain⟨t',rfl⟩:=ry;exact ne_bytes (Cw I q (congrArg not bw_8))
  |_=>exact absurd (show false=true from hs) Bool.false_ne_true
 |_=>cases y <;> exact absurd (show false=true from hs) Bool.false_ne_true
theorem dq_0:OpR X (compareOp .Lt) (rI0 λi j=> .bl (decide (i < j))):=opB0 λ_ _ _ _ _ _ _ q=>lt_int q
theorem dq_1:OpR X (compareOp .LtE) (rI0 λi j=> .bl (decide (i<=j))):=opB0 λ_ _ _ _ _ _ _ q=>le_int q
theorem dq_2:OpR X (compareOp .Gt) (rI0 λi j=> .bl (decide (j < i))):=opB0 λ_ _ _ _ _ _ _ q=>gt_int q
theorem cd_6:OpR X (compareOp .In) (λx y H Q=>∃i j,x=.str i/\y=.str j/\Q (.bl (!(Builtin.Str.occurrences j i 0 j.length 1).isEmpty)) H):=by
 intro zd s σ H x y v u Q I rx ry h;obtain⟨i,j,rfl,rfl,q⟩:=h;obtain⟨t,rfl⟩:=rx;obtain⟨t',rfl⟩:=ry;exact in_str (Cw I q rfl)
theorem cv_6:OpR X (compareOp .IsNot) (λx y H Q=>y=.non/\Q (.bl (!decide (x=.non))) H):=by
 intro zd s σ H x y v u Q I rx ry h;obtain⟨rfl,q⟩:=h;cases ry;refine isnot_none_gen (Cw I q ?_);cases x <;> first
  |(cases rx;rfl)
  |(obtain⟨t,rfl⟩:=rx;rfl)
theorem OpR.or{f:Value->Value->Sem Value}{r r':R2}(h:OpR X f r)(h':OpR X f r'):OpR X f (λx y H Q=>r x y H Q\/r' x y H Q):=by
 intro zd s σ H x y v u Q I rx ry q;rcases q with q|q
 ·exact h zd s σ H x y v u Q I rx ry q
 ·exact h' zd s σ H x y v u Q I rx ry q
theorem Dk(b:Expr){op:CmpOp}(h:op≠ .In:=by decide)(h2:op≠ .NotIn:=by decide):behindInMarks op b=false:=by
 have e1:(op ==CmpOp.In)=false:=by cases op <;> first|rfl|exact absurd rfl h
 have e2:(op ==CmpOp.NotIn)=false:=by cases op <;> first|rfl|exact absurd rfl h2
 cases b <;> simp [behindInMarks,e1,e2]
theorem cv_7{op:CmpOp}{r:R2}(ho:OpR X (compareOp op) r)(ha:PE X a ta)(hb:PE X b tb)(hm:behindInMarks op b=false):PE X (.Compare a [op] [b] pos) (tOp r ta tb):=by
 intro zd s σ H Q I h;exact wpAny_Compare1 (binT ha hb I h λv u s2 x y H2 I2 rx ry q=>ho zd s2 σ H2 x y v u Q I2 rx ry q) hm
def de_9(t:TE):TT:=λ σ H Q=>t σ H λx H'=>∃k,x=.bl k/\Q k H'
theorem bw_9{op:CmpOp}{r:R2}(ho:OpR X (compareOp op) r)(ha:PE X a ta)(hb:PE X b tb)(hm:behindInMarks op b=false):PT X (.Compare a [op] [b] pos) (de_9 (tOp r ta tb)):=by
 intro zd s σ H Q I h;refine wpAny_isTrue_Compare1 (Aw (ha zd s σ H _ I h) λv s1 ⟨x,H1,I1,r1,q1⟩=>Aw (hb zd s1 σ H1 _ I1 q1) λu s2 ⟨y,H2,I2,r2,q2⟩=>
  Aw (ho zd s2 σ H2 x y v u _ I2 r1 r2 q2) λc s3 ⟨z,H3,I3,r3,k,e,q3⟩=> ?_) hm
 subst e;cases r3;exact wpAny_truthy_bool ⟨H3,I3,q3⟩
def br_0(r r':R2)(ta tb tc:TE):TE:=λ σ H Q=>ta σ H λx H1=>tb σ H1 λy H2=>r x y H2 λz H3=>∃k,z=.bl k/\
 (if k=true then tc σ H3 λw' H4=>r' y w' H4 Q else Q (.bl false) H3)
theorem cj_7{op op':CmpOp}{r r':R2}(ho:OpR X (compareOp op) r)(ho':OpR X (compareOp op') r')(ha:PE X a ta)(hb:PE X b tb)(hc:PE X c tc)
  (hm:lastMarks [op,op'] [b,c]=false:=by with_unfolding_all rfl):PE X (.Compare a [op,op'] [b,c] pos) (br_0 r r' ta tb tc):=by
 intro zd s σ H Q I h;refine Compare_chain (Aw (ha zd s σ H _ I h) λv s1 ⟨x,H1,I1,r1,q1⟩=>chain_link (Aw (hb zd s1 σ H1 _ I1 q1) λu s2 ⟨y,H2,I2,r2,q2⟩=>
  Aw (ho zd s2 σ H2 x y v u _ I2 r1 r2 q2) λd s3 ⟨z,H3,I3,r3,k,e,q3⟩=> ?_)) hm
 subst e;cases r3;refine wpAny_truthy_bool ?_;cases k with
 |false=>exact ite_ff ⟨.bl false,H3,I3,rfl,q3⟩
 |true=>exact ite_tt (chain_last (Aw (hc zd s3 σ H3 _ I3 q3) λw' s4 ⟨z',H4,I4,r4,q4⟩=>ho' zd s4 σ H4 y z' u w' Q I4 r2 r4 q4))
theorem cj_8{op op':CmpOp}{r r':R2}(ho:OpR X (compareOp op) r)(ho':OpR X (compareOp op') r')(ha:PE X a ta)(hb:PE X b tb)(hc:PE X c tc)
  (hm:lastMarks [op,op'] [b,c]=false:=by with_unfolding_all rfl):PT X (.Compare a [op,op'] [b,c] pos) (de_9 (br_0 r r' ta tb tc)):=by
 intro zd s σ H Q I h;refine isTrue_chain (Aw (ha zd s σ H _ I h) λv s1 ⟨x,H1,I1,r1,q1⟩=>test_link (Aw (hb zd s1 σ H1 _ I1 q1) λu s2 ⟨y,H2,I2,r2,q2⟩=>
  Aw (ho zd s2 σ H2 x y v u _ I2 r1 r2 q2) λd s3 ⟨z,H3,I3,r3,k,e,q3⟩=> ?_)) hm
 subst e;cases r3;refine wpAny_truthy_bool ?_;cases k with
 |false=>
  obtain⟨k',e',q'⟩:=q3;cases e';exact ite_ff ⟨H3,I3,q'⟩
 |true=>
  refine ite_tt (test_last (Aw (hc zd s3 σ H3 _ I3 q3) λw' s4 ⟨z',H4,I4,r4,q4⟩=>Aw (ho' zd s4 σ H4 y z' u w' _ I4 r2 r4 q4) λd' s5 ⟨z2,H5,I5,r5,k2,e2,q5⟩=> ?_));subst e2;cases r5;exact wpAny_truthy_bool ⟨H5,I5,q5⟩
def TruV(K:Frag)(x:V)(H:Hp)(k:Bool):Prop:=
 match x with
 | .non=>k=false
 | .bl b=>k=b
 | .int i=>k=(i != 0)
 | .str y=>y.length<=sizeLine/\k=((y.length:Int) != 0)
 | .byt y=>y.size<=sizeLine/\k=((y.size:Int) != 0)
 | .ref p=>(∃xs,SqL K H p xs/\k= !xs.isEmpty)\/(∃xs,SqT K H p xs/\k= !xs.isEmpty)\/∃kvs,H p=some (.dK kvs)/\k= !kvs.isEmpty
 |_=>False
theorem br_1{κ:Type}{kvs:List (κ×V)}{vs:List (κ×Value)}(r:KV kvs vs):(!vs.isEmpty)= !kvs.isEmpty:=by
 cases r <;> rfl
theorem aq_0{xs:List V}{its:List Value}(r:Vals xs its):(!its.toArray.isEmpty)= !xs.isEmpty:=by
 cases r <;> simp
theorem ag_7:(sizeLine:Nat) < 2 ^ 63:=by rw [sizeLine_eq];decide
theorem di_7:TruR X (λx H Q=>∃k,TruV X.K x H k/\Q k H):=by
 intro zd s σ H x v Q I rx h;obtain⟨k,e,q⟩:=h;have hl:=ag_7;have hs:sizeLine=16777216:=sizeLine_eq;cases x with
 |non=>
  cases rx;have e':k=false:=e;subst e';exact truthy_none ⟨H,I,q⟩
 |bl b=>
  cases rx;have e':k=b:=e;subst e';exact wpAny_truthy_bool ⟨H,I,q⟩
 |int i=>
  obtain⟨t,rfl⟩:=rx;have e':k=(i != 0):=e;subst e';exact PySem.P.truthy_int ⟨H,I,q⟩
 |str y=>
  obtain⟨t,rfl⟩:=rx;obtain⟨hy,e'⟩:y.length<=sizeLine/\k=((y.length:Int) != 0):=e;subst e';exact PySem.P.truthy_str (by omega) ⟨H,I.tok _,q⟩
 |byt y=>
  obtain⟨t,rfl⟩:=rx;obtain⟨hy,e'⟩:y.size<=sizeLine/\k=((y.size:Int) != 0):=e;subst e';exact truthy_bytes (by omega) ⟨H,I.tok _,q⟩
 |ref p=>
  cases rx;have e':(∃xs,SqL X.K H p xs/\k= !xs.isEmpty)\/(∃xs,SqT X.K H p xs/\k= !xs.isEmpty)\/∃kvs,H p=some (.dK kvs)/\k= !kvs.isEmpty:=e;rcases e' with⟨xs,hx,e'⟩|⟨xs,hx,e'⟩|⟨kvs,hx,e'⟩
  ·subst e';obtain⟨its,r,pl,hz⟩:=I.list hx;have zk:=r.length;exact wpAny_truthy_list pl.isList (by simp only [List.size_toArray];omega) ⟨H,I.tok _,by rw [aq_0 r];exact q⟩
  ·subst e';obtain⟨its,r,pl,hz⟩:=I.tuple hx;have zk:=r.length;exact truthy_tuple pl (by simp only [List.size_toArray];omega) ⟨H,I.tok _,by rw [aq_0 r];exact q⟩
  ·subst e';obtain⟨hz,hS,vs,r,m⟩:kvs.length<=sizeLine/\(p ==sysModules)=false/\∃vs,KV kvs vs/\s.heap.DictOf (Di X.prog X.w) p vs:=I.hok p _ hx;have zk:kvs.length=vs.length:=Paired.length r;exact wpAny_truthy_dict hS m (by omega) ⟨H,I.tok _,by rw [br_1 r];exact q⟩
 |_=>exact(show False from e).elim
theorem cj_9(ha:PE X a ta)(he:∀whole,isTrue a X.env whole=(do let v<-whole;standAt a.pos;holding [v] (truthy v))):
  PT X a (λ σ H Q=>ta σ H λx H'=>∃k,TruV X.K x H' k/\Q k H'):=by
 intro zd s σ H Q I h;exact isTrue_plain (Aw (ha zd s σ H _ I h) λv s1 ⟨x,H1,I1,r1,q1⟩=>di_7 zd s1 σ H1 x v Q I1 r1 q1) (he _)
theorem br_2:OpR X (binaryOp .Add) (λx y H Q=>∃i j,x=.str i/\y=.str j/\i.length + j.length<=sizeLine/\Q (.str (i ++ j)) H):=by
 intro zd s σ H x y v u Q I rx ry h;obtain⟨i,j,rfl,rfl,hz,q⟩:=h;obtain⟨t,rfl⟩:=rx;obtain⟨t',rfl⟩:=ry;exact add_str (λt' tk=>⟨.str (i ++ j),H,I.tok _,⟨_,rfl⟩,q⟩) hz
theorem bx_0{x:V}{us:List Value}(r:Vals [x] us):∃u,us= [u]/\RelV x u:=by
 cases r with
 |cons r1 r2=>cases r2;exact⟨_,rfl,r1⟩
theorem df_0{x y:V}{us:List Value}(r:Vals [x,y] us):∃u w',us= [u,w']/\RelV x u/\RelV y w':=by
 cases r with
 |cons r1 r2=>
  cases r2 with
  |cons r3 r4=>cases r4;exact⟨_,_,rfl,r1,r3⟩
theorem cd_7(hc:X.calm=true):CallR X (.builtin "max") (λxs H Q=>∃i j,xs= [.int i,.int j]/\Q (.int (if j > i then j else i)) H):=by
 intro zd s σ H xs us Q I r h;obtain⟨i,j,rfl,q⟩:=h;obtain⟨u,w',rfl,⟨t,rfl⟩,⟨t',rfl⟩⟩:=df_0 r;refine max_two_ints (I.ok.hd hc) λh' tk k=>⟨_,H,I.kept k, ?_,q⟩
 by_cases hj:j > i
 ·rw [if_pos hj,if_pos hj];exact⟨_,rfl⟩
 ·rw [if_neg hj,if_neg hj];exact⟨_,rfl⟩
theorem cd_8(hc:X.calm=true):CallR X (.builtin "min") (λxs H Q=>∃i j,xs= [.int i,.int j]/\Q (.int (if j < i then j else i)) H):=by
 intro zd s σ H xs us Q I r h;obtain⟨i,j,rfl,q⟩:=h;obtain⟨u,w',rfl,⟨t,rfl⟩,⟨t',rfl⟩⟩:=df_0 r;refine min_two_ints (I.ok.hd hc) λh' tk k=>⟨_,H,I.kept k, ?_,q⟩
 by_cases hj:j < i
 ·rw [if_pos hj,if_pos hj];exact⟨_,rfl⟩
 ·rw [if_neg hj,if_neg hj];exact⟨_,rfl⟩
end
structure ObjM(h:Heap)(x dx C:Addr)(mA:Str->Option Value):Prop where
 obj:h.get? x=some (instObj C dx)
 ns:h.Ns1 dx mA
 ne:dx≠x
theorem cd_9{h:Heap}{dx:Addr}{mA:Str->Option Value}(n:h.Ns1 dx mA):∃od,h.get? dx=some od/\∀name,lookIn name od=some (mA name):=by
 obtain⟨o,es,ep,ho,hd,hk,_,hm⟩:=n;refine⟨o,ho,λname=> ?_⟩;have e:=hm name;unfold nsFind findBy at e;rw [<-Array.find?_toList] at e;unfold lookIn;rw [hd];dsimp only
 split
 ·rename_i y q;rw [q] at e;exact congrArg some e
 ·rename_i q;rw [q] at e;have a:es.toList.any (·.refKey)=false:=by
   rw [List.any_eq_false];intro y hy;obtain⟨z,t,di⟩:=hk y (Array.mem_toList_iff.mp hy);simp [DictEntry.refKey,di]
  have a':¬es.toList.any (·.refKey)=true:=by rw [a];exact Bool.false_ne_true
  rw [if_neg a'];exact congrArg some e
theorem ObjM.look{h:Heap}{x dx C:Addr}{mA:Str->Option Value}(I:ObjM h x dx C mA):∃od,InstAt h x (instObj C dx) C (some od)/\∀name,lookIn name od=some (mA name):=
 let⟨od,ho,hl⟩:=cd_9 I.ns
 ⟨od,⟨I.obj,rfl,rfl,ho⟩,hl⟩
section
variable{prog:Program}{w:World}{A:Around}{E:Value->Shared->Prop}{s:Shared}{K:Frag}{x dx C f:Addr}{mA:Str->Option Value}{name:Str}{v:Value}
theorem cv_8{expr:Bool}{Q:Value->Shared->Prop}(X:K.In s.heap)(I:ObjM s.heap x dx C mA)(hg:plainGet K C name=true)(hh:hasDictIn K C=true)
  (ha:findIn K (.ref C) name=some none) (hv:mA name=some v) (hv':handedIn v=true) (h:Q v {s with toks:=s.toks + 1}):
  wpAny (model prog w) A (getAttr (.ref x) name expr) Q E s:=by
 obtain⟨od,J,hl⟩:=I.look;exact get_value X J (plainGet_of hg).1 (findObj_own hh ha rfl (by rw [hl,hv])) hv' h
theorem ck_0{pl:Sem Bool}{Q:Value×List Value->Shared->Prop}(X:K.In s.heap)(I:ObjM s.heap x dx C mA)(hg:plainGet K C name=true)
  (hf:findIn K (.ref C) name=some (some (.ref f))) (ht:isFn K (.ref f)=true) (hv:mA name=none) (h:Q (.ref f,[.ref x]) s):
  wpAny (model prog w) A (getMethod (.ref x) name pl) Q E s:=by
 obtain⟨od,J,hl⟩:=I.look;exact method_fn X J (plainGet_of hg).1 (plainGet_of hg).2 hf (beq_iff_eq.mp ht) (by show(lookIn name od).map (·.isSome)=some false;rw [hl,hv];rfl) h
theorem cv_9{ns:List Str}{Q:Unit->Shared->Prop}(X:K.In s.heap)(I:ObjM s.heap x dx C mA)
  (hs:findIn K (.ref C) "__setattr__" =some (some (.builtin "object.__setattr__"))) (hp:plainOver K C=true) (ht:takerIn K C name=some none) (hh:hasDictIn K C=true)
  (hw:PySem.Within mA ns) (hsz:ns.length<=sizeLine)
  (h:∀h',ObjM h' x dx C (λy=>if y=name then some v else mA y)->Heap.SameBut dx s.heap h'->Q () {s with heap:=h',toks:=s.toks + 2}):
  wpAny (model prog w) A (setAttr (.ref x) name v) Q E s:=by
 obtain⟨od,J,hl⟩:=I.look;refine set_plain X J hs (osa_open (s:={s with toks:=s.toks + 1}) (r:=none) X J hp ht λb=> ?_);obtain⟨cd,hc,hd'⟩:=any_some hh;have hx:s.heap.get? x=some ⟨.ref C,some dx,.plain, #[]⟩:=I.obj;refine wpAny_bind (wpAny_pure (wpAny_bind (wpAny_bind (wpAny_loadPart hx (wpAny_bind (Looks.here (s:={s with toks:=s.toks + 1}) (looks_clsIn X hc) ?_))))));rw [hd'];refine wpAny_pure (a:=some dx) (wpAny_bind (wpAny_pure (wpAny_bind ?_)));refine wpAny_nsSet1 (s:={s with toks:=s.toks + 1}) I.ns λh' hn2 hs2=> ?_;obtain⟨oD,esD,epD,hoD,hdD,hcD⟩:=hn2.count (PySem.Within.cons name v hw);refine wpAny_bind (wpAny_lookBehind hoD (by rw [hdD];exact pastItsLine_dict (Nat.le_trans hcD (by rw [List.length_cons];omega))) ?_);exact wpAny_pure (h _ ⟨(hs2.2 _ (Ne.symm I.ne)).trans I.obj,hn2,I.ne⟩ hs2)
theorem ck_1{R:Result->Shared->Prop}{vs:List Value}{kw:List (Str×Value)}(X:K.In s.heap)(hm:makesIn K C=true)
  (hi:findIn K (.ref C) "__init__" =some (some (.ref f))) (hf:typeIn K (.ref f)=some (.type "function"))
  (h:codeAny (model prog w) (A.under (.builtin "type.__call__" ⟨.ref C::vs,kw⟩)) (.call (.ref f) ⟨.ref (s.heap.objs.size + 1)::vs,kw⟩) (InitBack (s.heap.objs.size + 1) R)
   {s with heap:=(s.heap.push emptyDict).push (instObj C s.heap.objs.size)}):
  codeAny (model prog w) A (.call (.ref C) ⟨vs,kw⟩) R s:=by
 obtain⟨hh,g,d,t,os⟩:=s;exact make_core (makes_of X hm) (looks_findIn X hi) (λself=>bind_fn X self hf) (.inl rfl) h
end
def Ez(f:Str)(v:V):List (Str×V)->List (Str×V)
 | []=> [(f,v)]
 |(g,x)::r=>if g=f then(g,v)::r else(g,x)::Ez f v r
theorem ak_3(f g:Str)(v:V):∀fs:List (Str×V),(Ez f v fs).lookup g=if g=f then some v else fs.lookup g
 | []=>by
  show List.lookup g [(f,v)]=_
  by_cases h:g=f
  ·have hb:(g ==f)=true:=beq_iff_eq.mpr h;simp only [List.lookup,hb,if_pos h]
  ·have hb:(g ==f)=false:=beq_eq_false_iff_ne.mpr h;simp only [List.lookup,hb,if_neg h]
 |(k,x)::r=>by
  have ih:=ak_3 f g v r;rw [show Ez f v ((k,x)::r)=(if k=f then(k,v)::r else(k,x)::Ez f v r) from rfl]
  by_cases hk:k=f
  ·rw [if_pos hk]
   by_cases h:g=k
   ·have hb:(g ==k)=true:=beq_iff_eq.mpr h;simp only [List.lookup,hb,if_pos (h.trans hk)]
   ·have hb:(g ==k)=false:=beq_eq_false_iff_ne.mpr h;simp only [List.lookup,hb,if_neg (λe:g=f=>h (e.trans hk.symm))]
  ·rw [if_neg hk]
   by_cases h:g=k
   ·have hb:(g ==k)=true:=beq_iff_eq.mpr h;simp only [List.lookup,hb,if_neg (λe:g=f=>hk (h.symm.trans e))]
   ·have hb:(g ==k)=false:=beq_eq_false_iff_ne.mpr h;simp only [List.lookup,hb];exact ih
theorem ag_8(f:Str)(v:V):∀fs:List (Str×V),f∈(Ez f v fs).map (·.1)/\∀g,g∈fs.map (·.1)->g∈(Ez f v fs).map (·.1)
 | []=>⟨by simp [Ez],λg h=>by simp at h⟩
 |(k,x)::r=>by
  obtain⟨i1,i2⟩:=ag_8 f v r;rw [show Ez f v ((k,x)::r)=(if k=f then(k,v)::r else(k,x)::Ez f v r) from rfl]
  by_cases hk:k=f
  ·rw [if_pos hk];subst hk;exact⟨by simp,λg h=>by simpa using h⟩
  ·rw [if_neg hk];refine⟨?_,λg h=> ?_⟩
   ·rw [List.map_cons];exact List.mem_cons_of_mem _ i1
   ·rw [List.map_cons] at h⊢;rcases List.mem_cons.mp h with e|e
    ·exact List.mem_cons.mpr (.inl e)
    ·exact List.mem_cons_of_mem _ (i2 g e)
theorem ak_4(f:Str)(v:V):∀fs:List (Str×V),(Ez f v fs).length<=fs.length + 1
 | []=>by simp [Ez]
 |(k,x)::r=>by
  have ih:=ak_4 f v r;rw [show Ez f v ((k,x)::r)=(if k=f then(k,v)::r else(k,x)::Ez f v r) from rfl]
  by_cases hk:k=f
  ·rw [if_pos hk,List.length_cons,List.length_cons];omega
  ·rw [if_neg hk,List.length_cons,List.length_cons];omega
theorem RelO.some_of{v:V}{o:Option Value}(r:RelO (some v) o):∃u,o=some u/\RelV v u:=by
 cases o with
 |none=>exact(show False from r).elim
 |some u=>exact⟨u,rfl,r⟩
theorem RelO.none_of{o:Option Value}(r:RelO none o):o=none:=by
 cases o with
 |none=>rfl
 |some u=>exact(show False from r).elim
theorem ce_0{v:V}{u:Value}(r:RelV v u):handedIn u=true:=by
 cases v with
 |non=>cases(show u=Value.none from r);rfl
 |bl b=>cases(show u=Value.bool b from r);rfl
 |int i=>obtain⟨t,e⟩:=(show∃t,u=Value.int i t from r);cases e;rfl
 |str x=>obtain⟨t,e⟩:=(show∃t,u=Value.str x t from r);cases e;rfl
 |byt b=>obtain⟨t,e⟩:=(show∃t,u=Value.bytes b t from r);cases e;rfl
 |flt b=>obtain⟨t,e⟩:=(show∃t,u=Value.float b t from r);cases e;rfl
 |ref a=>cases(show u=Value.ref a from r);rfl
 |ty n=>cases(show u=Value.type n from r);rfl
section
variable{P:Program}{w:World}{H H':Hp}{h h':Heap}{a C dx:Addr}{fs fs':List (Str×V)}
theorem bc_9(hok:HOk P w H h)(e:H a=some (.ins C dx fs)):∃mA,ObjM h a dx C mA/\(∀f,RelO (fs.lookup f) (mA f))/\PySem.Within mA (fs.map (·.1))/\fs.length<=1000/\H dx=some (.own a):=by
 obtain⟨d,z,ne,ob,mA,n,r,q⟩:=(show ObjOk P w H h a (.ins C dx fs) from hok a _ e);exact⟨mA,⟨ob,n,ne⟩,r,q,z,d⟩
end
structure Cls(K:Frag)(C:Addr):Prop where
 pg:plainGet K C Str.empty=true
 hd:hasDictIn K C=true
 po:plainOver K C=true
 sa:findIn K (.ref C) "__setattr__" =some (some (.builtin "object.__setattr__"))
theorem Cls.get{K:Frag}{C:Addr}(c:Cls K C)(f:Str):plainGet K C f=true:=c.pg
def NoAttr(K:Frag)(C:Addr)(f:Str):Prop:=findIn K (.ref C) f=some none
theorem NoAttr.taker{K:Frag}{C:Addr}{f:Str}(n:NoAttr K C f):takerIn K C f=some none:=by
 unfold takerIn;rw [show findIn K (.ref C) f=some none from n];rfl
structure Con(K:Frag)(C:Addr)(f:Str)(v:V)(u:Value):Prop where
 at_:findIn K (.ref C) f=some (some u)
 rel:RelV v u
 get:specialIn K u "__get__" =some none
 cp:PySem.W.copiedNames.contains f=false
structure Meth(K:Frag)(C:Addr)(m:Str)(f:Addr):Prop where
 at_:findIn K (.ref C) m=some (some (.ref f))
 fn:isFn K (.ref f)=true
 kp:keepIn K (.ref f)=true
section
variable{X:Cx}{zd:List (Addr×Obj)}{σ:St}{H:Hp}{s:Shared}{a C dx:Addr}{fs:List (Str×V)}{f:Str}{v:V}{A:Around}{E:Value->Shared->Prop}
theorem br_3{b:Bool}{Q:Value->Shared->Prop}(I:Inv X zd σ H s)(e:H a=some (.ins C dx fs))(c:Cls X.K C)(n:NoAttr X.K C f)(l:fs.lookup f=some v)
  (h:∀u s',Inv X zd σ H s'->RelV v u->Q u s'):wpAny (model X.prog X.w) A (getAttr (.ref a) f b) Q E s:=by
 obtain⟨mA,O,r,_,_,_⟩:=bc_9 I.hok e;obtain⟨u,hu,ru⟩:=RelO.some_of (v:=v) (o:=mA f) (by rw [<-l];exact r f);exact cv_8 I.kIn O (c.get f) c.hd n hu (ce_0 ru) (h u _ (I.tok _) ru)
theorem aq_1{m:Str}{g:Addr}{pl:Sem Bool}{Q:Value×List Value->Shared->Prop}(I:Inv X zd σ H s)(e:H a=some (.ins C dx fs))(c:Cls X.K C)(k:Meth X.K C m g)(l:fs.lookup m=none)
  (h:Q (.ref g,[.ref a]) s):wpAny (model X.prog X.w) A (getMethod (.ref a) m pl) Q E s:=by
 obtain⟨mA,O,r,_,_,_⟩:=bc_9 I.hok e;have hn:mA m=none:=RelO.none_of (by rw [<-l];exact r m);exact ck_0 I.kIn O (c.get m) k.at_ k.fn hn h
theorem br_4{y:V}{u:Value}{Q:Unit->Shared->Prop}(I:Inv X zd σ H s)(e:H a=some (.ins C dx fs))(c:Cls X.K C)(n:NoAttr X.K C f)(hl:fs.length < 1000)(ry:RelV y u)
  (h:∀s',Inv X zd σ (upd H a (.ins C dx (Ez f y fs))) s'->Q () s'):wpAny (model X.prog X.w) A (setAttr (.ref a) f u) Q E s:=by
 obtain⟨mA,O,r,wi,_,ho⟩:=bc_9 I.hok e;have hz:(fs.map (·.1)).length<=sizeLine:=by rw [List.length_map,sizeLine_eq];omega
 refine cv_9 I.kIn O c.sa c.po n.taker c.hd wi hz λh' O' sb=>h _ ?_;have hd:∃o,h'.get? dx=some o:=let⟨o,_,_,e',_⟩:=O'.ns;⟨o,e'⟩;refine I.write (x:=a) (e:=dx) (by rw [e];exact True.intro) (.inr ho) (λb q hb z=>(sb.2 b hb).trans z) hd ?_;refine⟨by rw [An O.ne];exact ho, ?_,O.ne,O'.obj,_,O'.ns,λg=> ?_,λg hg=> ?_⟩
 ·have:=ak_4 f y fs;omega
 ·show RelO ((Ez f y fs).lookup g) (if g=f then some u else mA g);rw [ak_3]
  by_cases q:g=f
  ·rw [if_pos q,if_pos q];exact ry
  ·rw [if_neg q,if_neg q];exact r g
 ·by_cases q:g=f
  ·rw [q];exact(ag_8 f y fs).1
  ·refine(ag_8 f y fs).2 g (wi g λz=>hg ?_);show(if g=f then some u else mA g)=none;rw [if_neg q];exact z
theorem Inv.made(I:Inv X zd σ H s):Inv X zd σ (upd (upd H s.heap.objs.size (.own (s.heap.objs.size + 1))) (s.heap.objs.size + 1) (.ins C s.heap.objs.size []))
  {s with heap:=(s.heap.push emptyDict).push (instObj C s.heap.objs.size)}:=by
 have e1:(s.heap.push emptyDict).get? s.heap.objs.size=some emptyDict:=Heap.get?_push_size s.heap rfl;have e2:((s.heap.push emptyDict).push (instObj C s.heap.objs.size)).get? (s.heap.objs.size + 1)=some (instObj C s.heap.objs.size):=by
  have:=Heap.get?_push_size (s.heap.push emptyDict) (o:=instObj C s.heap.objs.size) rfl
  rwa [Heap.size_push] at this
 have e3:(s.heap.push emptyDict).Ns s.heap.objs.size (λ_=>none):=⟨emptyDict, #[],_,e1,rfl,(λe he=>absurd he (by simp)),λ_=>rfl⟩;have I1:=I.laid (a:=s.heap.objs.size) (o:=.own (s.heap.objs.size + 1)) (h':=s.heap.push emptyDict) (t':=s.toks) (λb u q=>Heap.get?_push_of_some _ q) (Nat.le_refl _) ⟨_,e1⟩;refine I1.laid (a:=s.heap.objs.size + 1) (o:=.ins C s.heap.objs.size []) (t':=s.toks) (λb u q=>Heap.get?_push_of_some _ q) (Nat.le_of_eq (Heap.size_push _ _)) ?_;have ne:s.heap.objs.size≠s.heap.objs.size + 1:=Nat.ne_of_lt (Nat.lt_succ_self _);refine⟨by rw [An ne,Ba],Nat.zero_le _,ne,e2,λ_=>none,(Heap.Ns1.of_empty e3).at λo q=>Heap.get?_push_of_some _ q,λ_=>True.intro,λy hy=>absurd rfl hy⟩
theorem cw_0{prog:Program}{w:World}{env:Env}{e:Expr}{f:Str}{pos:Pos}{s:Shared}{Q:Value->Shared->Prop}(hb:attributeBase e f env (eval e env)=eval e env)
  (h:wpAny (model prog w) A (eval e env) (λo s₁=>wpAny (model prog w) A (getAttr o f true) Q E s₁) E s):wpAny (model prog w) A (eval (.Attribute e f pos) env) Q E s:=
 Attribute_any_ h (by rw [arm_eval_Attribute,hb])
end
def tFld(K:Frag)(ta:TE)(f:Str):TE:=λ σ H Q=>ta σ H λx H1=>∃a C dx fs v,x=.ref a/\H1 a=some (.ins C dx fs)/\Cls K C/\NoAttr K C f/\fs.lookup f=some v/\Q v H1
def sFld(K:Frag)(ta tv:TE)(f:Str):TS:=λD σ H=>tv σ H λy H1=>ta σ H1 λx H2=>∃a C dx fs,x=.ref a/\H2 a=some (.ins C dx fs)/\Cls K C/\NoAttr K C f/\fs.length < 1000/\
 D.nx σ (upd H2 a (.ins C dx (Ez f y fs)))
section
variable{X:Cx}{o e value:Expr}{f:Str}{pos pos' zh:Pos}{ta tv:TE}
theorem br_5(he:PE X e ta)(hb:attributeBase e f X.env (eval e X.env)=eval e X.env):PE X (.Attribute e f pos) (tFld X.K ta f):=by
 intro zd s σ H Q I h;refine cw_0 hb (Aw (he zd s σ H _ I h) λu s1 ⟨x,H1,I1,rx,a,C,dx,fs,v,ex,ea,c,n,l,q⟩=> ?_);subst ex;obtain rfl:u=Value.ref a:=rx;exact br_3 I1 ea c n l λu' s2 I2 ru=>⟨v,H1,I2,ru,q⟩
theorem br_6(ha:PE X o ta)(hv:PE X value tv)(hs:swapsWith value (some (.Attribute o f pos')) pos.line X.env=pure false):PS X (.Assign [.Attribute o f pos'] value pos) (sFld X.K ta tv f):=by
 intro zd s σ H D I h;refine plainObj_wpAny_Assign_Attribute (Aw (hv zd s σ H _ I h) λu s1 ⟨y,H1,I1,ry,q⟩=>Aw (ha zd s1 σ H1 _ I1 q) λov s2 ⟨x,H2,I2,rx,a,C,dx,fs,ex,ea,c,n,l,q2⟩=> ?_) hs;subst ex;obtain rfl:ov=Value.ref a:=rx;exact br_4 I2 ea c n l ry λs3 I3=>⟨σ,_,I3,q2⟩
end
section
variable{X:Cx}{zd:List (Addr×Obj)}{σ:St}{H:Hp}{s:Shared}{A:Around}{E:Value->Shared->Prop}{Q:Value->Shared->Prop}{c:Value}{b:Bool}
inductive TyOf(K:Frag)(H:Hp):V->Value->Prop where
 |non:TyOf K H .non (.type "NoneType")
 |bl (x:Bool):TyOf K H (.bl x) (.type "bool")
 |int (i:Int):TyOf K H (.int i) (.type "int")
 |str (x:Str):TyOf K H (.str x) (.type "str")
 |flt (x:UInt64):TyOf K H (.flt x) (.type "float")
 |lst {a:Addr} {xs:List V} (e:H a=some (.lst xs)):TyOf K H (.ref a) (.type "list")
 |frz {a:Addr} {o:Obj} {xs:List V} (e:H a=some (.frz o (.lst xs))):TyOf K H (.ref a) (.type "list")
 |tup {a:Addr} {xs:List V} (e:H a=some (.tup xs)):TyOf K H (.ref a) (.type "tuple")
 |dK {a:Addr} {kvs:List (Af×V)} (e:H a=some (.dK kvs)):TyOf K H (.ref a) (.type "dict")
 |dT {a:Addr} {kvs:List (List Af×V)} (e:H a=some (.dT kvs)):TyOf K H (.ref a) (.type "dict")
 |ins {a C dx:Addr} {fs:List (Str×V)} (e:H a=some (.ins C dx fs)) (cl:Cls K C) (ha:findIn K (.ref C) "__class__" =some (some (.builtin "object.__class__")))
   (hn:specialIn K (.builtin "object.__class__") "__get__" =some (some (.builtin "getset_descriptor.__get__"))) (htk:takesIn K (.builtin "object.__class__")=some true)
   (hm:mroIn K C (.type "object")=some true):TyOf K H (.ref a) (.ref C)
end
structure Room(k:Nat)(A:Around):Prop where
 hd:A.handled=none
 dp:A.depth + 3 * k + 5 < recursionLimit
 un:A.units + 16 * k + 200 < cLine
theorem Room.in1{k:Nat}{A:Around}(r:Room (k + 1) A):Room k A.in1:=
 ⟨r.hd,by have:=r.dp;show A.depth + 3 * k + 5 < _;omega,by have:=r.un;show A.units + 1 + 16 * k + 200 < _;omega⟩
theorem br_7{A:Around}{C:Addr}{us:List Value}{kw:List (Str×Value)}:(A.under (.builtin "type.__call__" ⟨.ref C::us,kw⟩)).depth=A.depth + 1:=by
 first|rfl|simp [Around.under,Code.weight,Code.isCreation,Code.isGuard,Code.isCaller,Code.frames,Code.isFrame,guardIds]
theorem br_8{A:Around}{C:Addr}{us:List Value}{kw:List (Str×Value)}:(A.under (.builtin "type.__call__" ⟨.ref C::us,kw⟩)).units=A.units + 1:=by
 first|rfl|simp [Around.under,Code.cUnits,Code.frames,Code.isFrame]
theorem Room.depth{k:Nat}{A:Around}(r:Room k A):A.depth < recursionLimit:=by have:=r.dp;omega
def tNil:TA:=λ_ H Q=>Q [] H
def ck_2(ta:TE)(tr:TA):TA:=λ σ H Q=>ta σ H λx H1=>tr σ H1 λxs H2=>Q (x::xs) H2
section
variable{X:Cx}{e:Expr}{es:List Expr}{te:TE}{t:TA}{pos:Pos}
theorem o_9:PA X [] tNil:=λ_ _ _ _ H Q I h=>Calls.spliced_nil ⟨[],H,I,.nil,h⟩
theorem i_7(ha:PE X e te)(hr:PA X es t)(hs:starEach (e::es) X.env=(false,eval e X.env)::starEach es X.env:=by rfl):PA X (e::es) (ck_2 te t):=by
 intro pos zd s σ H Q I h;rw [hs];show wpAny _ _ (spliced ((false,eval e X.env)::backTo pos (starEach es X.env))) _ _ s;refine Calls.spliced_cons (Aw (ha zd s σ H _ I h) λu s1 ⟨x,H1,I1,r1,q1⟩=> ?_);exact Aw (hr pos zd s1 σ H1 _ I1 q1) λus s2 ⟨xs,H2,I2,r2,q2⟩=>⟨x::xs,H2,I2,.cons r1 r2,q2⟩
def tTup(t:TA):TE:=λ σ H Q=>t σ H λxs H1=>xs.length<=sizeLine/\∀p,H1 p=none->Q (.ref p) (upd H1 p (.tup xs))
def tLst(t:TA):TE:=λ σ H Q=>t σ H λxs H1=>xs.length<=sizeLine/\∀p,H1 p=none->Q (.ref p) (upd H1 p (.lst xs))
theorem di_8{x1}(h:PA X es t):PE X (.Tuple es x1 pos) (tTup t):=by
 intro zd s σ H Q I hq;refine wpAny_Tuple_spliced (Aw (h pos zd s σ H _ I hq) λus s1 ⟨xs,H1,I1,r,z,q⟩=>⟨by rw [<-r.length];exact z, ?_⟩);have hf:H1 s1.heap.objs.size=none:=I1.hok.fresh (Nat.le_refl _);refine⟨.ref s1.heap.objs.size,upd H1 s1.heap.objs.size (.tup xs),I1.laid (t':=s1.toks) (λb u e=>Heap.get?_push_of_some _ e) (Nat.le_refl _) ?_,rfl,q _ hf⟩;exact⟨z,us,r,⟨_,Heap.get?_push_size _ rfl,rfl,_,rfl⟩⟩
theorem bd_0(h:PA X es t):PE X (.List es pos) (tLst t):=by
 intro zd s σ H Q I hq;refine wpAny_List_spliced (Aw (h pos zd s σ H _ I hq) λus s1 ⟨xs,H1,I1,r,z,q⟩=>⟨by rw [<-r.length];exact z, ?_⟩);have hf:H1 s1.heap.objs.size=none:=I1.hok.fresh (Nat.le_refl _);refine⟨.ref s1.heap.objs.size,upd H1 s1.heap.objs.size (.lst xs),I1.laid (t':=s1.toks) (λb u e=>Heap.get?_push_of_some _ e) (Nat.le_refl _) ?_,rfl,q _ hf⟩;exact⟨z,us,0,r,Heap.get?_push_size _ rfl⟩
end
abbrev Sp:=List V->Hp->VK->XK->Prop
abbrev CXT:=List Env->Hp->Shared->XK->Value->Shared->Prop
structure Env0(P:Program)(w:World)(K:Frag)(mg:Str->Option Value)(base:Heap)(A:Around)(outer:List Env)(s:Shared)(H:Hp):Prop where
 frames:A.frames=some outer
 mod:Mod K mg base
 bs:∀b o,base.get? b=some o->s.heap.get? b=some o/\H b=none
 bsz:base.objs.size<=s.heap.objs.size
 funs:s.heap.FunFrames base outer
 frf:∀b∈frs outer,H b=none
 hok:HOk P w H s.heap
 bare:AllBare s.gens
def CE(outer:List Env)(P:Program)(w:World)(H:Hp)(s:Shared)(Q:VK)(u:Value)(s':Shared):Prop:=
 ∃v H',s'.os=s.os/\AllBare s'.gens/\Un (frs outer) [] H H' s.heap s'.heap/\HOk P w H' s'.heap/\RelV v u/\Q v H'
def CR(CX:CXT)(outer:List Env)(P:Program)(w:World)(H:Hp)(s:Shared)(Q:VK)(E:XK)(r:Result)(s':Shared):Prop:=
 match r with
 | .ok (.ret u)=>CE outer P w H s Q u s'
 | .ok _=>False
 | .error e=>CX outer H s E e s'
structure FnOk(P:Program)(w:World)(K:Frag)(mg:Str->Option Value)(base:Heap)(CX:CXT)(k:Nat)(f:Addr)(fd:FuncData)(ps:List Str)(sp:Sp):Prop where
 len:∀vs H Q E,sp vs H Q E->vs.length=ps.length
 run:∀(A:Around) (outer:List Env) (s:Shared) (H:Hp) (args:Args) (us:List Value) (vs:List V) (Q:VK) (E:XK),Room k A->Env0 P w K mg base A outer s H->BindsTo s fd args (ps.zip us)->Vals vs us->sp vs H Q E->
  codeAny (model P w) A (.call (.ref f) args) (CR CX outer P w H s Q E) s
theorem Env0.make{P:Program}{w:World}{K:Frag}{mg:Str->Option Value}{base:Heap}{A:Around}{outer:List Env}{s:Shared}{H:Hp}(e:Env0 P w K mg base A outer s H)(C:Addr)(us:List Value)(kw:List (Str×Value)):
  Env0 P w K mg base (A.under (.builtin "type.__call__" ⟨.ref C::us,kw⟩)) outer s H:=⟨by first|exact e.frames|(simpa [Around.under,Code.envs,Code.isFrame,pushEnvs] using e.frames),e.mod,e.bs,e.bsz,e.funs,e.frf,e.hok,e.bare⟩
theorem Env0.in1{P:Program}{w:World}{K:Frag}{mg:Str->Option Value}{base:Heap}{A:Around}{outer:List Env}{s:Shared}{H:Hp}(e:Env0 P w K mg base A outer s H):
  Env0 P w K mg base A.in1 outer s H:=⟨e.frames,e.mod,e.bs,e.bsz,e.funs,e.frf,e.hok,e.bare⟩
section
variable{X:Cx}{zd:List (Addr×Obj)}{σ:St}{H:Hp}{s s':Shared}
theorem Inv.env0(I:Inv X zd σ H s):Env0 X.prog X.w X.K X.mg X.base X.A X.stack s H:=
 ⟨I.ok.frames,I.ok.mod,I.bs,Nat.le_trans I.ok.bsz I.sz,I.stack,I.stkFree,I.hok,I.bare⟩
theorem Inv.after{Q:VK}{u:Value}(I:Inv X zd σ H s)(h:CE X.stack X.prog X.w H s Q u s'):EP X zd σ Q u s':=by
 obtain⟨v,H',os,bare,un,hok,r,q⟩:=h;obtain⟨hh,g,d,t,os'⟩:=s';obtain rfl:os'=s.os:=os;exact⟨v,H',I.call (h':=hh) (g':=g) (d':=d) (t':=t) (ch:=[]) un hok bare (λb z=>absurd z (by simp)),r,q⟩
end
def Binds(K:Frag)(fd:FuncData)(ps:List Str)(ds:List Value):Prop:=
 ∀(s:Shared) (us:List Value),K.In s.heap->(us ++ ds).length=ps.length->BindsTo s fd ⟨us,[]⟩ (ps.zip (us ++ ds))
theorem Binds.all{K:Frag}{fd:FuncData}{ps:List Str}(h:∀us:List Value,us.length=ps.length->bindArgs fd ⟨us,[]⟩=pure (ps.zip us)):Binds K fd ps []:=λs us _ hl=>by
 rw [List.append_nil] at hl⊢;exact .of_eq (h us hl)
section
variable{X:Cx}{CX:CXT}{k:Nat}{f C:Addr}{fd:FuncData}{ps:List Str}{sp:Sp}{dvs:List V}{ds:List Value}{E:XK}{x m:Str}{p pos zg:Pos}{e o:Expr}{es:List Expr}{ta:TE}{t:TA}
structure Mk(K:Frag)(C f:Addr):Prop where
 makes:makesIn K C=true
 init:findIn K (.ref C) "__init__" =some (some (.ref f))
 fn:isFn K (.ref f)=true
 kp:keepIn K (.ref C)=true
end
section
variable{X:Cx}{CX:CXT}{k:Nat}{f C:Addr}{fd:FuncData}{ps ks:List Str}{sp:Sp}{E:XK}{x m:Str}{p pos zg fw:Pos}{e o:Expr}{es:List Expr}{kws:List Keyword}{te ta:TE}{t tk:TA}{nm:Option Str}
structure KBinds(K:Frag)(fd:FuncData)(ps ks:List Str)(g:List Value->List Value->List Value)(gV:List V->List V->List V):Prop where
 to:∀(s:Shared) (us ws:List Value),K.In s.heap->(g us ws).length=ps.length->BindsTo s fd ⟨us,ks.zip ws⟩ (ps.zip (g us ws))
 rel:∀{vs:List V} {us:List Value} {zs:List V} {ws:List Value},Vals vs us->Vals zs ws->Vals (gV vs zs) (g us ws)
variable{g:List Value->List Value->List Value}{gV:List V->List V->List V}
end
structure FnScope(N P:List Str)(sc:Scope):Prop where
 kind:sc.kind=.function
 co:sc.isCoroutine=false
 gen:sc.isGenerator=false
 nd:N.Nodup
 pre:N.take P.length=P
 par:∀x∈P,sc.names.lookup x=some .local\/sc.names.lookup x=some .cell
 nofree:∀y∈sc.names,y.2≠ .free
theorem ay_2{kindOf:Str->Option NameKind}{x:Str}:∀{binds:List (Str×Value)} {m:Str->Option Value},(∀v,(x,v)∉binds)->bindL kindOf binds m x=m x
 | [],_,_=>rfl
 |(n,v)::r,m,h=>by
  unfold bindL;rw [ay_2 λw hw=>h w (List.mem_cons_of_mem _ hw)]
  split
  ·have:x≠n:=by rintro rfl;exact h v List.mem_cons_self
   simp [this]
  ·rfl
theorem ay_3{kindOf:Str->Option NameKind}{x:Str}:∀{binds:List (Str×Value)} {m:Str->Option Value},(∀v,(x,v)∉binds)->bindC kindOf binds m x=m x
 | [],_,_=>rfl
 |(n,v)::r,m,h=>by
  unfold bindC;rw [ay_3 λw hw=>h w (List.mem_cons_of_mem _ hw)]
  split
  ·rfl
  ·have:x≠n:=by rintro rfl;exact h v List.mem_cons_self
   simp [this]
theorem ay_4{kindOf:Str->Option NameKind}{x:Str}{v:Value}:∀{P:List Str} {vs:List Value} {i:Nat} {m:Str->Option Value},P.Nodup->P[i]? =some x->vs[i]? =some v->kindOf x=some .local->
  bindL kindOf (P.zip vs) m x=some v
 | [],_,_,_,_,h,_,_=>by simp at h
 |_::_,[],_,_,_,_,h,_=>by simp at h
 |p::P,w::vs,0,m,nd,h1,h2,hk=>by
  simp at h1 h2;subst h1;subst h2;show bindL kindOf ((p,w)::P.zip vs) m p=_;unfold bindL;rw [ay_2 λv hv=>(List.nodup_cons.mp nd).1 (List.of_mem_zip hv).1,if_pos hk];simp
 |p::P,w::vs,i + 1,m,nd,h1,h2,hk=>by
  show bindL kindOf ((p,w)::P.zip vs) m x=_;unfold bindL;exact ay_4 (i:=i) (List.nodup_cons.mp nd).2 (by simpa using h1) (by simpa using h2) hk
theorem ay_5{kindOf:Str->Option NameKind}{x:Str}{v:Value}:∀{P:List Str} {vs:List Value} {i:Nat} {m:Str->Option Value},P.Nodup->P[i]? =some x->vs[i]? =some v->kindOf x≠some .local->
  bindC kindOf (P.zip vs) m x=some v
 | [],_,_,_,_,h,_,_=>by simp at h
 |_::_,[],_,_,_,_,h,_=>by simp at h
 |p::P,w::vs,0,m,nd,h1,h2,hk=>by
  simp at h1 h2;subst h1;subst h2;show bindC kindOf ((p,w)::P.zip vs) m p=_;unfold bindC;rw [ay_3 λv hv=>(List.nodup_cons.mp nd).1 (List.of_mem_zip hv).1,if_neg hk];simp
 |p::P,w::vs,i + 1,m,nd,h1,h2,hk=>by
  show bindC kindOf ((p,w)::P.zip vs) m x=_;unfold bindC;exact ay_5 (i:=i) (List.nodup_cons.mp nd).2 (by simpa using h1) (by simpa using h2) hk
def start(N:List Str)(vs:List V):St:=vs.map some ++ List.replicate (N.length - vs.length) none
def Et(CX:CXT)(P:Program)(w:World)(K:Frag)(mg:Str->Option Value)(base:Heap)(N:List Str)(qual:Str)(scope:Scope)(f:Addr)(cd:Value)(A:Around)(outer:List Env)(s:Shared)(H:Hp)(E:XK):Cx where
 prog:=P
 w:=w
 K:=K
 mg:=mg
 base:=base
 A:=A.deeper (envOfC qual scope s.heap.objs.size f cd)
 N:=N
 s₀:=s
 H₀:=H
 env:=envOfC qual scope s.heap.objs.size f cd
 outer:=outer
 stack:=envOfC qual scope s.heap.objs.size f cd::outer
 ex:=[]
 calm:=true
 fn:=λ_=>true
 pn:=[]
 xe:=λe s'=>wpAny (model P w) (A.deeper (envOfC qual scope s.heap.objs.size f cd)) (leaving (envOfC qual scope s.heap.objs.size f cd) e) (λ_ s''=>CX outer H s E e s'') (λe' s''=>CX outer H s E e' s'') s'
theorem bi_5{sc:Scope}{n:Nat}{x:Str}(h:sc.names.lookup x=some .cell):∃c,(cellsFrom n sc.names []).lookup x=some c:=by
 have q:=cellsFrom_some sc.names n [] (.inl h);exact Option.isSome_iff_exists.mp q
theorem ce_1{CX:CXT}{P:Program}{w:World}{K:Frag}{mg:Str->Option Value}{base:Heap}{N ps:List Str}{qual:Str}{scope:Scope}{f:Addr}{cd:Value}{A:Around}{outer:List Env}{s s1:Shared}{H:Hp}{E:XK}{us:List Value}{vs:List V}
  (S:FnScope N ps scope) (hd:A.handled=none) (e0:Env0 P w K mg base A outer s H) (hl:vs.length=ps.length) (r:Vals vs us)
  (x:InCallC s s.heap.objs.size (bindL (envOfC qual scope s.heap.objs.size f cd).kindOf (ps.zip us) λ_=>none) (cellsFrom (s.heap.objs.size + 1) scope.names []) (bindC (envOfC qual scope s.heap.objs.size f cd).kindOf (ps.zip us) λ_=>none) s1):
  Inv (Et CX P w K mg base N qual scope f cd A outer s H E) [] (start N vs) H s1:=by
 have hpl:ps.length<=N.length:=by have:=congrArg List.length S.pre;rw [List.length_take] at this;omega
 obtain⟨h1,tk,rfl,hk⟩:=x.done;have noA:∀b:Addr,b∉(Et CX P w K mg base N qual scope f cd A outer s H E).ex:=λb z=>absurd (show b∈([]:List Addr) from z) (by simp);refine⟨⟨e0.mod,S.kind,rfl,rfl,Nat.le_refl _,λy z c h1 h2=> ?_,λy hy=> ?_,λy c _ h=> ?_,λ_=>hd,Around.frames_deeper e0.frames,.inr ⟨rfl,rfl⟩,λb z=>absurd z (noA b),e0.bs,e0.bsz,λb _ _=>noA b,λb z=>absurd z (noA b),e0.funs,e0.frf⟩,
  rfl,e0.bare,Un.kept hk,⟨_,x.toInCall.ns,λi y v h1 h2 h3=> ?_⟩,λy c h=>⟨_,x.cell y c h⟩,e0.hok.fresh (Nat.le_refl _),λy c h=> ?_,λp hp=>absurd (show p∈([]:List (Addr×Obj)) from hp) (by simp),e0.hok.kept hk, ?_⟩
 ·exact name_of_addr x.apart (PySem.mem_of_lookup h1) (PySem.mem_of_lookup h2)
 ·have hy:scope.names.lookup y=some .cell\/scope.names.lookup y=some .free:=hy;rcases hy with hy|hy
  ·exact bi_5 hy
  ·exact absurd rfl (S.nofree _ (PySem.mem_of_lookup hy))
 ·exact Nat.le_of_lt (x.above y c (PySem.mem_of_lookup h))
 ·have hi:i < vs.length:=by
   unfold start at h2
   by_cases hi:i < vs.length
   ·exact hi
   ·rw [List.getElem?_append_right (by simpa using hi)] at h2;rw [List.getElem?_replicate] at h2
    split at h2 <;> cases h2
  have ha:vs[i]? =some v:=by
   unfold start at h2;rw [List.getElem?_append_left (by simpa using hi),List.getElem?_map] at h2;cases e:vs[i]? with
   |none=>rw [e] at h2;cases h2
   |some a=>rw [e] at h2;cases h2;rfl
  obtain⟨u,hu,rv⟩:=r.get ha;have hp:ps[i]? =some y:=by
   rw [<-S.pre,List.getElem?_take_of_lt (by omega)];exact h1
  have ndP:ps.Nodup:=by rw [<-S.pre];exact S.nd.sublist (List.take_sublist _ _)
  refine⟨u,rv, ?_⟩;rcases S.par y (List.mem_of_getElem? hp) with k|k
  ·exact .inl ⟨k,ay_4 ndP hp hu k⟩
  ·obtain⟨c,e⟩:=bi_5 (n:=s.heap.objs.size + 1) k;refine .inr ⟨.inl k,c,e, ?_⟩;have q:=x.cell y c e;rw [ay_5 ndP hp hu (by show scope.names.lookup y≠_;rw [k];decide)] at q;exact q
 ·exact e0.hok.fresh (Nat.le_of_lt (x.above y c (PySem.mem_of_lookup h)))
 ·unfold start;show _=N.length;rw [List.length_append,List.length_map,List.length_replicate];omega
section
variable{X:Cx}{x:Str}{p pos:Pos}{e:Expr}{es:List Expr}{t:TA}{id T:String}{r:List V->Hp->VK->Prop}
def tCB(r:List V->Hp->VK->Prop)(t:TA):TE:=λ σ H Q=>t σ H λvs H1=>r vs H1 Q
theorem bi_6(hc:CallR X (.builtin id) r)(hg:Gl X x)(hm:X.mg x=none)(hv:bootBuiltins x=some (.builtin id))(ha:PA X (e::es) t)(hn:x≠ "__name__" :=by decide)(hdb:(x ==("__debug__" :Str))=false:=by decide)
  (he:starEach (e::es) X.env=(false,eval e X.env)::starEach es X.env:=by rfl) (hpl:(backTo pos (starEach es X.env)).any (·.1)=false:=by rfl):PE X (.Call (.Name x p) (e::es) [] pos) (tCB r t):=by
 intro zd s σ H Q I h;refine wpAny_Call_Name_kw (ac_5 I hg hm hv ?_ hn hdb);exact PyProof.Rows.callWith_builtin1 (Aw (ha pos zd s σ H _ I h) λus s1 ⟨vs,H1,I1,r1,q1⟩=>hc zd s1 σ H1 vs us Q I1 r1 q1) he hpl
theorem ce_2(hc:CallR X (.type T) r)(hg:Gl X x)(hm:X.mg x=none)(hv:bootBuiltins x=some (.type T))(ha:PA X (e::es) t)(hn:x≠ "__name__" :=by decide)(hdb:(x ==("__debug__" :Str))=false:=by decide)
  (he:starEach (e::es) X.env=(false,eval e X.env)::starEach es X.env:=by rfl) (hpl:(backTo pos (starEach es X.env)).any (·.1)=false:=by rfl):PE X (.Call (.Name x p) (e::es) [] pos) (tCB r t):=by
 intro zd s σ H Q I h;refine wpAny_Call_Name_kw (ac_5 I hg hm hv ?_ hn hdb);exact PyProof.Rows.callWith_type1 (Aw (ha pos zd s σ H _ I h) λus s1 ⟨vs,H1,I1,r1,q1⟩=>hc zd s1 σ H1 vs us Q I1 r1 q1) he hpl
end
end L2
namespace HT
open PySem PyProof.Rows
section
open PySem.SeqAt
open PySem.AutoSeq1 (wpAny_loadPart')
open PySem.MeetsSeq PySem.MeetsSeq2 PySem.MeetsSeq3
end
section
variable{prog:Program}{w:World}{A:Around}{E:Value->Shared->Prop}{s:Shared}
def sIx(n d:Nat):Option Int->Nat
 |none=>d
 |some v=>if v < 0 then(v + (n:Int)).toNat else min v.toNat n
end
end HT
namespace L2
open PySem PySem.Spec PyProof.Rows
abbrev TO:=St->Hp->(Option Int->Hp->Prop)->Prop
section
variable{X:Cx}{e:Expr}{te:TE}{lo hi:Option Expr}{tl th:TO}{pos p2:Pos}
def SlR(X:Cx)(r:V->Option Int->Option Int->Hp->VK->Prop):Prop:=
 ∀(zd:List (Addr×Obj)) (s:Shared) (σ:St) (H:Hp) (x:V) (v vl vu:Value) (lo hi:Option Int) (sl:Addr) (Q:VK),Inv X zd σ H s->RelV x v->s.heap.IsSliceOf sl vl vu .none->IsPart vl lo->IsPart vu hi->r x lo hi H Q->
  ∃T id,typeLookup (.type T) "__getitem__" =pure (some (.builtin id))/\s.TypeIs v T/\wpAny (model X.prog X.w) X.A (getItem v (.ref sl)) (EP X zd σ Q) X.xe s
theorem SlR.or{r r':V->Option Int->Option Int->Hp->VK->Prop}(h:SlR X r)(h':SlR X r'):SlR X (λx lo hi H Q=>r x lo hi H Q\/r' x lo hi H Q):=by
 intro zd s σ H x v vl vu lo hi sl Q I rx hs pl pu q;rcases q with q|q
 ·exact h zd s σ H x v vl vu lo hi sl Q I rx hs pl pu q
 ·exact h' zd s σ H x v vl vu lo hi sl Q I rx hs pl pu q
end
def ixN(n:Nat)(i:Int):Option Nat:=if 0<=i then(if i < n then some i.toNat else none) else if -(n:Int)<=i then some (i + n).toNat else none
def atI{α:Type}(xs:List α)(i:Int):Option α:=(ixN xs.length i).bind λj=>xs[j]?
theorem cw_2{n:Nat}{i:Int}{j:Nat}(h:ixN n i=some j):seqIndex? i n=some j/\j < n/\ -(n:Int)<=i/\i < n:=by
 unfold ixN at h
 by_cases h0:0<=i
 ·rw [if_pos h0] at h
  by_cases h1:i < n
  ·rw [if_pos h1] at h;have e:i.toNat=j:=Option.some.inj h;exact⟨by rw [seqIndex_of h0 h1,e],by omega,by omega,h1⟩
  ·rw [if_neg h1] at h;cases h
 ·rw [if_neg h0] at h
  by_cases h1: -(n:Int)<=i
  ·rw [if_pos h1] at h;have e:(i + n).toNat=j:=Option.some.inj h;exact⟨by rw [seqIndex_neg (by omega) h1,e],by omega,h1,by omega⟩
  ·rw [if_neg h1] at h;cases h
theorem bd_1{α:Type}{xs:List α}{i:Int}{v:α}(h:atI xs i=some v):∃j,seqIndex? i xs.length=some j/\xs[j]? =some v/\j < xs.length/\ -(xs.length:Int)<=i/\i < xs.length:=by
 unfold atI at h;cases e:ixN xs.length i with
 |none=>rw [e] at h;cases h
 |some j=>
  rw [e] at h;obtain⟨h1,h2,h3,h4⟩:=cw_2 e;exact⟨j,h1,h,h2,h3,h4⟩
def bx_1(b:Expr):Prop:=∀o i,subscripted b false o i=operate [o,i] (getItem o i)
def IxR(X:Cx)(r:R2):Prop:=
 ∀(value slice:Expr) (zd:List (Addr×Obj)) (s:Shared) (σ:St) (H:Hp) (x y:V) (v u:Value) (Q:VK),Inv X zd σ H s->RelV x v->RelV y u->r x y H Q->
  subscripted slice false v u=operate [v,u] (getItem v u)->wpAny (model X.prog X.w) X.A (subscriptTail value slice v u) (EP X zd σ Q) X.xe s
def MtR(X:Cx)(id:String)(r:V->List V->Hp->VK->Prop):Prop:=
 ∀(zd:List (Addr×Obj)) (s:Shared) (σ:St) (H:Hp) (x:V) (xs:List V) (v:Value) (us:List Value) (Q:VK),Inv X zd σ H s->RelV x v->Vals xs us->r x xs H Q->
  wpAny (model X.prog X.w) X.A (call (.builtin id) (v::us)) (EP X zd σ Q) X.xe s
section
variable{X:Cx}{a b:Expr}{ta tb:TE}{pos:Pos}
theorem IxR.or{r r':R2}(h:IxR X r)(h':IxR X r'):IxR X (λx y H Q=>r x y H Q\/r' x y H Q):=by
 intro value slice zd s σ H x y v u Q I rx ry q hs;rcases q with q|q
 ·exact h value slice zd s σ H x y v u Q I rx ry q hs
 ·exact h' value slice zd s σ H x y v u Q I rx ry q hs
theorem MtR.or{id:String}{r r':V->List V->Hp->VK->Prop}(h:MtR X id r)(h':MtR X id r'):MtR X id (λx xs H Q=>r x xs H Q\/r' x xs H Q):=by
 intro zd s σ H x xs v us Q I rx rs q;rcases q with q|q
 ·exact h zd s σ H x xs v us Q I rx rs q
 ·exact h' zd s σ H x xs v us Q I rx rs q
theorem dq_3{r:R2}(hr:IxR X r)(ha:PE X a ta)(hb:PE X b tb)(hs:bx_1 b):PE X (.Subscript a b pos) (tOp r ta tb):=by
 intro zd s σ H Q I h;exact Subscript_ (binT ha hb I h λv u s2 x y H2 I2 rx ry q=>hr a b zd s2 σ H2 x y v u Q I2 rx ry q (hs _ _))
def rIxL(K:Frag):R2:=λx y H Q=>∃p xs i v,x=.ref p/\y=.int i/\SqL K H p xs/\atI xs i=some v/\Q v H
def rIxT(K:Frag):R2:=λx y H Q=>∃p xs i v,x=.ref p/\y=.int i/\SqT K H p xs/\atI xs i=some v/\Q v H
def rIxS:R2:=λx y H Q=>∃z i c,x=.str z/\y=.int i/\z.length<=sizeLine/\atI z.cps.toList i=some c/\Q (.str ⟨#[c]⟩) H
theorem cw_3:IxR X (rIxL X.K):=by
 intro value slice zd s σ H x y v u Q I rx ry h hs;obtain⟨p,xs,i,z,rfl,rfl,hq,he,q⟩:=h;cases rx;obtain⟨t,rfl⟩:=ry;obtain⟨its,r,pl,hz⟩:=I.list hq;obtain⟨j,h1,h2,h3,h4,h5⟩:=bd_1 he;obtain⟨w,ew,rw'⟩:=r.get h2;have hl:=r.length;have hn:=ag_7;have fin:EP X zd σ Q w s:=⟨z,H,I,rw',q⟩
 by_cases h0:0<=i
 ·have hj:i.toNat=j:=by
   rw [seqIndex_of h0 h5] at h1;exact Option.some.inj h1
  exact item_listR pl.isList h0 (by omega) (by rw [hj];simpa using ew) fin hs
 ·have hj:(i + (its.toArray.size:Int)).toNat=j:=by
   rw [seqIndex_neg (by omega) h4] at h1;rw [List.size_toArray,<-hl];exact Option.some.inj h1
  exact subscriptTail_builtinR (x:=w) pl.isList.typeIs slot_list_getitem.lookup
   (wpAny_getItem_list_neg (Q:=λr s'=>r=w/\EP X zd σ Q r s') pl.isList (by omega) (by rw [List.size_toArray] <;> omega) (by omega) (by rw [hj];simpa using ew) ⟨rfl,fin⟩) hs
theorem di_9:IxR X (rIxT X.K):=by
 intro value slice zd s σ H x y v u Q I rx ry h hs;obtain⟨p,xs,i,z,rfl,rfl,hq,he,q⟩:=h;cases rx;obtain⟨t,rfl⟩:=ry;obtain⟨its,r,pl,hz⟩:=I.tuple hq;obtain⟨j,h1,h2,h3,h4,h5⟩:=bd_1 he;obtain⟨w,ew,rw'⟩:=r.get h2;have hl:=r.length;have hn:=ag_7;have fin:EP X zd σ Q w s:=⟨z,H,I,rw',q⟩;exact subscriptTail_builtinR (x:=w) pl.typeIs slot_tuple_getitem.lookup
  (getItem_tuple (j:=j) (Q:=λr s'=>r=w/\EP X zd σ Q r s') pl (by omega) (by omega) (by rw [List.size_toArray,<-hl];exact h1) (by simpa using ew) ⟨rfl,fin⟩) hs
theorem dj_0:IxR X rIxS:=by
 intro value slice zd s σ H x y v u Q I rx ry h hs;obtain⟨z,i,c,rfl,rfl,hz,he,q⟩:=h;obtain⟨t,rfl⟩:=rx;obtain⟨t',rfl⟩:=ry;obtain⟨j,h1,h2,h3,h4,h5⟩:=bd_1 he;have hl:z.cps.toList.length=z.length:=by simp [Str.length]
 rw [hl] at h1 h4 h5;have hn:=ag_7;exact tail_any (typeIs_str s z t) slot_str_getitem.lookup (getItem_str (c:=c) (by
  have e1:decide (i < -(2 ^ 63:Int))=false:=decide_eq_false (by omega);have e2:decide (i≥2 ^ 63)=false:=decide_eq_false (by omega);rw [e1,e2,Bool.or_false]) (by rw [h1];simpa using h2) ⟨.str ⟨#[c]⟩,H,I.tok _,⟨_,rfl⟩,q⟩) hs
theorem Inv.lst{zd:List (Addr×Obj)}{σ:St}{H:Hp}{s:Shared}{p:Addr}{xs:List V}(I:Inv X zd σ H s)(h:H p=some (.lst xs)):
  ∃(its:List Value) (n:Nat),Vals xs its/\s.heap.get? p=some {cls:=.type "list",data:=.seq its.toArray n}/\xs.length<=sizeLine:=by
 obtain⟨z,its,n,r,e⟩:=I.hok p _ h;exact⟨its,n,r,e,z⟩
def Fg:V->Bool
 | .non=>true
 | .bl _=>true
 | .int _=>true
 | .str _=>true
 |_=>false
def eqV:V->V->Bool
 | .non,.non=>true
 | .bl a,.bl b=>a ==b
 | .bl a,.int b=>(if a then 1 else 0) ==b
 | .int a,.bl b=>a ==(if b then 1 else 0)
 | .int a,.int b=>a ==b
 | .str a,.str b=>a ==b
 |_,_=>false
theorem dj_1{A:Around}{s:Shared}{y x:V}{u v:Value}(ry:RelV y u)(rx:RelV x v)(fy:Fg y=true)(fx:Fg x=true):SeqAt.EqAt A s u v (eqV y x):=by
 cases y with
 |non=>
  cases ry;cases x with
  |non=>cases rx;exact SeqAt.EqAt.same _
  |bl b=>cases rx;exact SeqAt.EqAt.none_bool b
  |int b=>obtain⟨t,rfl⟩:=rx;exact SeqAt.EqAt.none_int b t
  |str b=>obtain⟨t,rfl⟩:=rx;exact SeqAt.EqAt.none_str b t
  |_=>exact absurd (show false=true from fx) Bool.false_ne_true
 |bl a=>
  cases ry;cases x with
  |non=>cases rx;exact SeqAt.EqAt.bool_none a
  |bl b=>cases rx;exact SeqAt.EqAt.bool_bool a b
  |int b=>obtain⟨t,rfl⟩:=rx;exact SeqAt.EqAt.bool_int a b t
  |str b=>obtain⟨t,rfl⟩:=rx;exact SeqAt.EqAt.bool_str a b t
  |_=>exact absurd (show false=true from fx) Bool.false_ne_true
 |int a=>
  obtain⟨t',rfl⟩:=ry;cases x with
  |non=>cases rx;exact SeqAt.EqAt.int_none a t'
  |bl b=>cases rx;exact SeqAt.EqAt.int_bool a t' b
  |int b=>obtain⟨t,rfl⟩:=rx;exact SeqAt.EqAt.int_int a t' b t
  |str b=>obtain⟨t,rfl⟩:=rx;exact SeqAt.EqAt.int_str a t' b t
  |_=>exact absurd (show false=true from fx) Bool.false_ne_true
 |str a=>
  obtain⟨t',rfl⟩:=ry;cases x with
  |non=>cases rx;exact SeqAt.EqAt.str_none a t'
  |bl b=>cases rx;exact SeqAt.EqAt.str_bool a t' b
  |int b=>obtain⟨t,rfl⟩:=rx;exact SeqAt.EqAt.str_int a t' b t
  |str b=>obtain⟨t,rfl⟩:=rx;exact SeqAt.EqAt.str_str a t' b t
  |_=>exact absurd (show false=true from fx) Bool.false_ne_true
 |_=>exact absurd (show false=true from fy) Bool.false_ne_true
def eqU(x:V)(u:Value):Bool:=match u with
 | .none=>eqV .non x
 | .bool b=>eqV (.bl b) x
 | .int i _=>eqV (.int i) x
 | .str z _=>eqV (.str z) x
 |_=>false
theorem ck_3{x y:V}{u:Value}(r:RelV y u)(f:Fg y=true):eqU x u=eqV y x:=by
 cases y with
 |non=>cases r;rfl
 |bl b=>cases r;rfl
 |int i=>obtain⟨t,rfl⟩:=r;rfl
 |str z=>obtain⟨t,rfl⟩:=r;rfl
 |_=>exact absurd (show false=true from f) Bool.false_ne_true
theorem bd_2{x:V}:∀{xs:List V} {us:List Value},Vals xs us->xs.all Fg=true->us.any (eqU x)=xs.any λy=>eqV y x
 |_,_,.nil,_=>rfl
 |y::xs,u::us,.cons r t,f=>by
  rw [List.all_cons,Bool.and_eq_true] at f;rw [List.any_cons,List.any_cons,ck_3 r f.1,bd_2 t f.2]
theorem aq_3{A:Around}{s:Shared}{x:V}{v:Value}(rx:RelV x v)(fx:Fg x=true):∀{xs:List V} {us:List Value},Vals xs us->xs.all Fg=true->∀u∈us,SeqAt.EqAt A s u v (eqU x u)
 |_,_,.nil,_=>λu hu=>by cases hu
 |y::xs,u::us,.cons r t,f=>λu' hu=>by
  rw [List.all_cons,Bool.and_eq_true] at f;rcases List.mem_cons.mp hu with rfl|hu
  ·rw [ck_3 r f.1];exact dj_1 r rx f.1 fx
  ·exact aq_3 rx fx t f.2 u' hu
def inV(x:V)(xs:List V):Bool:=xs.any λy=>eqV y x
def rIn(K:Frag)(neg:Bool):R2:=λx y H Q=>∃p xs,y=.ref p/\(SqL K H p xs\/SqT K H p xs)/\Fg x=true/\xs.all Fg=true/\Q (.bl (if neg then !inV x xs else inV x xs)) H
theorem ce_3:OpR X (compareOp .In) (rIn X.K false):=by
 intro zd s σ H x y v u Q I rx ry h;obtain⟨p,xs,rfl,hq,fx,fs,q⟩:=h;cases ry;rcases hq with hq|hq
 ·obtain⟨its,r,pl,hz⟩:=I.list hq;refine SeqAt.in_listAt (eqU x) pl.isList (λw hw=>aq_3 rx fx r fs w (by simpa using hw)) ⟨.bl _,H,I,rfl, ?_⟩;rw [show its.toArray.any (eqU x)=its.any (eqU x) by simp,bd_2 r fs];exact q
 ·obtain⟨its,r,pl,hz⟩:=I.tuple hq;refine SeqAt.in_tupleAt (eqU x) pl (λw hw=>aq_3 rx fx r fs w (by simpa using hw)) ⟨.bl _,H,I,rfl, ?_⟩;rw [show its.toArray.any (eqU x)=its.any (eqU x) by simp,bd_2 r fs];exact q
theorem ad_8:CallR X (.builtin "len") (λxs H Q=>∃p ys,xs= [.ref p]/\(SqL X.K H p ys\/SqT X.K H p ys)/\Q (.int ys.length) H):=by
 intro zd s σ H xs us Q I r h;obtain⟨p,ys,rfl,hq,q⟩:=h;obtain⟨u,rfl,rx⟩:=bx_0 r;cases rx;have hn:=ag_7;rcases hq with hq|hq
 ·obtain⟨its,r',pl,hz⟩:=I.list hq;have zk:=r'.length;exact Calls.call_len_list pl.isList (by simp only [List.size_toArray] <;> omega) ⟨.int ys.length,H,I.tok _,⟨s.toks + 1,by rw [List.size_toArray,zk]⟩,q⟩
 ·obtain⟨its,r',pl,hz⟩:=I.tuple hq;have zk:=r'.length;exact len_tuple pl (by simp only [List.size_toArray] <;> omega) ⟨.int ys.length,H,I.tok _,⟨s.toks + 1,by rw [List.size_toArray,zk]⟩,q⟩
theorem bd_3:CallR X (.builtin "len") (λxs H Q=>∃z,xs= [.str z]/\z.length<=sizeLine/\Q (.int z.length) H):=by
 intro zd s σ H xs us Q I r h;obtain⟨z,rfl,hz,q⟩:=h;obtain⟨u,rfl,t,rfl⟩:=bx_0 r;have hn:=ag_7;exact len_str (by omega) ⟨.int z.length,H,I.tok _,⟨_,rfl⟩,q⟩
theorem CallR.or{f:Value}{r r':List V->Hp->VK->Prop}(h:CallR X f r)(h':CallR X f r'):CallR X f (λxs H Q=>r xs H Q\/r' xs H Q):=by
 intro zd s σ H xs us Q I rs q;rcases q with q|q
 ·exact h zd s σ H xs us Q I rs q
 ·exact h' zd s σ H xs us Q I rs q
theorem ad_9:CallR X (.type "list") (λxs H Q=>∃p ys,xs= [.ref p]/\(SqL X.K H p ys\/SqT X.K H p ys)/\∀l,H l=none->Q (.ref l) (upd H l (.lst ys))):=by
 intro zd s σ H xs us Q I r h;obtain⟨p,ys,rfl,hq,q⟩:=h;obtain⟨u,rfl,rx⟩:=bx_0 r;cases rx;have fin:∀(its:List Value),Vals ys its->ys.length<=sizeLine->∀(h':Heap) (c':Nat),(∀b o',s.heap.get? b=some o'->h'.get? b=some o')->
   h'.get? s.heap.objs.size=some {cls:=.type "list",dict:=none,data:=.seq its.toArray c',slots:= #[]}->EP X zd σ Q (.ref s.heap.objs.size) {s with heap:=h'}:=λits r' hz h' c' kp e=>
  ⟨.ref s.heap.objs.size,_,I.laid (t':=s.toks) kp (Nat.le_refl _) (show ObjOk X.prog X.w _ h' _ (.lst ys) from⟨hz,its,c',r',e⟩),rfl,q _ (I.hok.fresh (Nat.le_refl _))⟩
 rcases hq with hq|hq
 ·obtain⟨its,r',pl,hz⟩:=I.list hq;have zk:=r'.length;obtain⟨o,ho,hc,n,hd⟩:=pl.isList;exact call_list_seq p (.inl rfl) ho hc hd (λh' c' kp e=>fin its r' hz h' c' kp e) (by simp only [List.size_toArray] <;> omega)
 ·obtain⟨its,r',pl,hz⟩:=I.tuple hq;have zk:=r'.length;obtain⟨o,ho,hc,n,hd⟩:=pl;exact call_list_seq p (.inr rfl) ho hc hd (λh' c' kp e=>fin its r' hz h' c' kp e) (by simp only [List.size_toArray] <;> omega)
theorem ab_4:CallR X (.type "tuple") (λxs H Q=>∃p ys,xs= [.ref p]/\((SqL X.K H p ys/\∀l,H l=none->Q (.ref l) (upd H l (.tup ys)))\/(SqT X.K H p ys/\Q (.ref p) H))):=by
 intro zd s σ H xs us Q I r h;obtain⟨p,ys,rfl,h⟩:=h;obtain⟨u,rfl,rx⟩:=bx_0 r;cases rx;rcases h with⟨hq,q⟩|⟨hq,q⟩
 ·obtain⟨its,r',pl,hz⟩:=I.list hq;have zk:=r'.length;refine call_tuple_list pl.isList (λh' kp=> ?_) (by simp only [List.size_toArray] <;> omega);have I1:Inv X zd σ H {s with heap:=h'}:=I.kept (t':=s.toks) kp;have I2:Inv X zd σ (upd H h'.objs.size (.tup ys)) {s with heap:=h'.push {cls:=.type "tuple",data:=.seq its.toArray}}:=
   I1.laid (t':=s.toks) (λb o e=>Heap.get?_push_of_some _ e) (Nat.le_refl _) (show ObjOk X.prog X.w _ _ _ (.tup ys) from⟨hz,its,r',IsTup.new _ _⟩)
  exact⟨.ref h'.objs.size,_,I2,rfl,q _ (I1.hok.fresh (Nat.le_refl _))⟩
 ·obtain⟨its,r',pl,hz⟩:=I.tuple hq;exact call_tuple_same pl ⟨.ref p,H,I,rfl,q⟩
def tyV(K:Frag)(T:String)(x:V)(H:Hp):Prop:=match x with
 | .str _=>T= "str"
 | .int _=>T= "int"
 | .ref p=>(T= "list" /\∃xs,SqL K H p xs)\/(T= "tuple" /\∃o,K.lookup p=some o/\o.cls=.type "tuple" /\o.dict=none)\/
   (T= "dict" /\((∃kvs,H p=some (.dK kvs))\/∃kvs,H p=some (.dT kvs)))\/(T= "set" /\∃S n,H p=some (.set S n))
 |_=>False
theorem ck_4{zd:List (Addr×Obj)}{σ:St}{H:Hp}{s:Shared}{T:String}{x:V}{v:Value}(I:Inv X zd σ H s)(r:RelV x v)(ty:tyV X.K T x H):
  s.TypeIs v T/\∀a,v=.ref a->∃ob,s.heap.get? a=some ob/\ob.dict=none:=by
 cases x with
 |str z=>
  obtain⟨t,rfl⟩:=r;cases(show T= "str" from ty);exact⟨typeIs_str s z t,λ_ e=>nomatch e⟩
 |int i=>
  obtain⟨t,rfl⟩:=r;cases(show T= "int" from ty);exact⟨typeIs_int s i t,λ_ e=>nomatch e⟩
 |ref p=>
  cases r;rcases ty with⟨rfl,xs,hq⟩|⟨rfl,o,hk,hc,hd⟩|⟨rfl,hk⟩|⟨rfl,S,n,hk⟩
  ·obtain⟨its,_,pl,_⟩:=I.list hq;refine⟨pl.isList.typeIs,λa e=> ?_⟩;cases e;obtain⟨o,n,e,c,hd,_⟩:=pl;exact⟨o,e,hd⟩
  ·refine⟨⟨o,I.kIn p o hk,hc⟩,λa e=> ?_⟩;cases e;exact⟨o,I.kIn _ o hk,hd⟩
  ·have z:∃o,s.heap.get? p=some o/\o.ExactDict:=by
    rcases hk with⟨kvs,hk⟩|⟨kvs,hk⟩
    ·obtain⟨_,_,_,_,o,_,_,e,ex,_⟩:=I.hok p _ hk;exact⟨o,e,ex⟩
    ·obtain⟨_,_,_,_,o,_,_,e,ex,_⟩:=I.hok p _ hk;exact⟨o,e,ex⟩
   obtain⟨o,e,ex⟩:=z;refine⟨⟨o,e,ex.1⟩,λa e2=> ?_⟩;cases e2;exact⟨o,e,ex.2.1⟩
  ·obtain⟨o,_,_,_,e,ex,_⟩:=I.hok p _ hk;refine⟨⟨o,e,ex.1⟩,λa e2=> ?_⟩;cases e2;exact⟨o,e,ex.2.1⟩
 |_=>exact False.elim ty
def tBM0(K:Frag)(T:String)(r:V->List V->Hp->VK->Prop)(to:TE):TE:=λ σ H Q=>to σ H λx H1=>tyV K T x H1/\r x [] H1 Q
def tBM(K:Frag)(T:String)(r:V->List V->Hp->VK->Prop)(to:TE)(t:TA):TE:=λ σ H Q=>to σ H λx H1=>tyV K T x H1/\t σ H1 λxs H2=>r x xs H2 Q
variable{o e:Expr}{es:List Expr}{to:TE}{t:TA}{name:Str}{zg zf:Pos}{T id:String}{r:V->List V->Hp->VK->Prop}
theorem dj_2(pa:PlainAttrs T)(slot:Slot T name id)(hty:typeOf (.builtin id)=pure (.type "method_descriptor"))(hm:MtR X id r)(ho:PE X o to)
  (af:attributeBase o name X.env (eval o X.env)=eval o X.env:=by rfl) (ag:(zg.endLine ==zf.line)=true:=by rfl):PE X (.Call (.Attribute o name zg) [] [] zf) (tBM0 X.K T r to):=by
 intro zd s σ H Q I h;refine wpAny_Call_method0_late af ag (Aw (ho zd s σ H _ I h) λv s1 ⟨x,H1,I1,r1,ty,q1⟩=> ?_);obtain⟨h1,h2⟩:=ck_4 I1 r1 ty;exact⟨T,id,pa,slot,hty,h1,h2,Calls.callWith_builtin rfl (PySem.evalArgs_none (hm zd s1 σ H1 x [] v [] Q I1 r1 .nil q1))⟩
theorem bx_2(pa:PlainAttrs T)(slot:Slot T name id)(hty:typeOf (.builtin id)=pure (.type "method_descriptor"))(hm:MtR X id r)(ho:PE X o to)(ha:PA X (e::es) t)
  (af:attributeBase o name X.env (eval o X.env)=eval o X.env:=by rfl)
  (ba:((backTo zf (starEach (e::es) X.env)).all (λx=> !x.1) && (backToKw zf (keywordEach [] X.env)).all (λx=>x.1.isSome)
   && decide ((e::es).length + ([]:List Keyword).length + (if([]:List Keyword).isEmpty then 0 else 1) < 30))=true:=by rfl)
  (ag:(zg.endLine ==zf.line)=true:=by rfl) (hs:starEach (e::es) X.env=(false,eval e X.env)::starEach es X.env:=by rfl) (ah:(backTo zf (starEach es X.env)).any (·.1)=false:=by rfl):
  PE X (.Call (.Attribute o name zg) (e::es) [] zf) (tBM X.K T r to t):=by
 intro zd s σ H Q I h;refine wpAny_Call_method_late af ba ag rfl (Aw (ho zd s σ H _ I h) λv s1 ⟨x,H1,I1,r1,ty,q1⟩=> ?_);obtain⟨h1,h2⟩:=ck_4 I1 r1 ty;refine⟨T,id,pa,slot,hty,h1,h2, ?_⟩;have hA:=ha zf zd s1 σ H1 _ I1 q1;rw [hs] at hA⊢;refine Calls.callWith_builtin (by show(false || (backTo zf (starEach es X.env)).any (·.1))=false;rw [ah] <;> rfl) (Calls.evalArgs_plain ?_);exact Aw hA λus s2 ⟨vs,H2,I2,r2,q2⟩=>hm zd s2 σ H2 x vs v us Q I2 r1 r2 q2
end
def MtM(X:Cx)(id:String)(r:V->List V->Hp->VK->Prop):Prop:=
 ∀(zd:List (Addr×Obj)) (s:Shared) (σ:St) (H:Hp) (x:V) (xs:List V) (v:Value) (us:List Value) (Q:VK),Inv X zd σ H s->RelV x v->Vals xs us->r x xs H Q->
  wpAny (model X.prog X.w) X.A (call (.builtin id) (v::us)) (EP X zd σ Q) X.xe s
theorem Vals.one:∀{x:V} {us:List Value},Vals [x] us->∃u,us= [u]/\RelV x u
 |_,_,.cons r .nil=>⟨_,rfl,r⟩
theorem Vals.two{x y:V}{us:List Value}(h:Vals [x,y] us):∃u v,us= [u,v]/\RelV x u/\RelV y v:=by
 cases h with
 |cons r t=>
  cases t with
  |cons q t=>
   cases t;exact⟨_,_,rfl,r,q⟩
theorem Vals.zero:∀{us:List Value},Vals [] us->us= []
 |_,.nil=>rfl
theorem Vals.dropLast{xs:List V}{us:List Value}(h:Vals xs us):Vals xs.dropLast us.dropLast:=by
 induction h with
 |nil=>exact .nil
 |cons r t ih=>
  cases t with
  |nil=>exact .nil
  |cons q t'=>exact .cons r ih
theorem Vals.eraseIdx:∀{xs:List V} {us:List Value} (i:Nat),Vals xs us->Vals (xs.eraseIdx i) (us.eraseIdx i)
 |_,_,_,.nil=> .nil
 |_,_,0,.cons _ t=>t
 |_,_,i + 1,.cons r t=> .cons r (Vals.eraseIdx i t)
theorem Vals.rep{xs:List V}{us:List Value}(h:Vals xs us):∀k:Nat,Vals (List.replicate k xs).flatten (List.replicate k us).flatten
 |0=> .nil
 |k + 1=>by
  rw [List.replicate_succ,List.replicate_succ,List.flatten_cons,List.flatten_cons];exact Vals.append h (Vals.rep h k)
theorem ay_6{α:Type}:∀(l:List α) (i:Nat),(l.eraseIdx i).length<=l.length
 | [],_=>Nat.le_refl _
 |_::_,0=>Nat.le_succ _
 |_::r,i + 1=>Nat.succ_le_succ (ay_6 r i)
theorem ay_7(its:List Value):∀(k:Nat) (zp:List Value),
  List.foldl (λx1 x2=>x1 ++ x2) zp.toArray (List.replicate k its.toArray)=(zp ++ (List.replicate k its).flatten).toArray
 |0,zp=>by simp
 |k + 1,zp=>by
  have e:zp.toArray ++ its.toArray=(zp ++ its).toArray:=by simp
  have e2:(zp ++ its) ++ (List.replicate k its).flatten=zp ++ (List.replicate (k + 1) its).flatten:=by
   rw [List.replicate_succ,List.flatten_cons,List.append_assoc]
  rw [<-e2,<-ay_7 its k (zp ++ its),<-e,List.replicate_succ,List.foldl_cons]
section
variable{X:Cx}{zd:List (Addr×Obj)}{σ:St}{H:Hp}{s:Shared}{l b:Addr}{xs ys zs:List V}
theorem Inv.lset{its its':List Value}{n:Nat}{f:Array Value->Array Value}{t':Nat}(I:Inv X zd σ H s)(hH:H l=some (.lst xs))
  (e:s.heap.get? l=some {cls:=.type "list",data:=.seq its.toArray n}) (hf:f its.toArray=its'.toArray) (hv:Vals ys its') (hz:ys.length<=sizeLine):
  Inv X zd σ (upd H l (.lst ys)) {s with heap:=s.heap.update l (Obj.mapSeq f),toks:=t'}:=by
 have q:=PySem.IsL.update e f;rw [hf] at q;refine I.write (x:=l) (e:=l) (by rw [hH];exact trivial) (.inl rfl) (λb' u hb hu=>(Heap.get?_update_other s.heap (Obj.mapSeq f) (Ne.symm hb)).trans hu) ⟨_,q⟩ ?_;exact⟨hz,its',_,hv,q⟩
theorem Inv.lnew{its:List Value}{t':Nat}(I:Inv X zd σ H s)(hv:Vals ys its)(hz:ys.length<=sizeLine):
  Inv X zd σ (upd H s.heap.objs.size (.lst ys)) {s with heap:=s.heap.push {cls:=.type "list",data:=.seq its.toArray},toks:=t'}:=
 I.laid (λ_ _ q=>Heap.get?_push_of_some _ q) (Nat.le_refl _) ⟨hz,its,0,hv,Heap.get?_push_size _ rfl⟩
theorem Inv.fresh(I:Inv X zd σ H s):H s.heap.objs.size=none:=I.hok.fresh (Nat.le_refl _)
theorem Inv.lstM(I:Inv X zd σ H s)(hH:H l=some (.lst xs)):xs.length<=sizeLine/\∃(its:List Value) (n:Nat),Vals xs its/\xs.length=its.length/\s.heap.get? l=some {cls:=.type "list",data:=.seq its.toArray n}:=by
 obtain⟨z,its,n,r,e⟩:=I.hok l _ hH;exact⟨z,its,n,r,r.length,e⟩
theorem ck_5{n:Nat}(h:n<=sizeLine):Builtin.List.listTooLong n=false:=by
 unfold Builtin.List.listTooLong;exact decide_eq_false (by omega)
end
section
variable{X:Cx}
def bd_4:V->List V->Hp->VK->Prop:=λx vs H Q=>∃l xs y,x=.ref l/\vs= [y]/\H l=some (.lst xs)/\xs.length < sizeLine/\Q .non (upd H l (.lst (xs ++ [y])))
theorem ag_9:MtM X "list.append" bd_4:=by
 intro zd s σ H x vs v us Q I rx rv h;obtain⟨l,xs,y,rfl,rfl,hH,hz,q⟩:=h;cases rx;obtain⟨u,rfl,ru⟩:=rv.one;obtain⟨z,its,n,r,hl,e⟩:=I.lstM hH;refine call_meets F.slot_list_append ⟨_,e,rfl⟩ F.entry_list_append (F.args_list_append_2 _ _) (PySem.list_append l its.toArray n u (by rw [List.size_toArray];omega)) ⟨e, ?_⟩;refine⟨.non,_,I.lset (its':=its ++ [u]) hH e (by simp) (r.append (.cons ru .nil)) ?_,rfl,q⟩;rw [List.length_append,List.length_singleton];omega
def dj_3:V->List V->Hp->VK->Prop:=λx vs H Q=>∃l xs i k y,x=.ref l/\vs= [.int i]/\H l=some (.lst xs)/\ -(2 ^ 63)<=i/\i < 2 ^ 63/\seqIndex? i xs.length=some k/\xs[k]? =some y/\Q y (upd H l (.lst (xs.eraseIdx k)))
theorem ck_6:MtM X "list.pop" dj_3:=by
 intro zd s σ H x vs v us Q I rx rv h;obtain⟨l,xs,i,k,y,rfl,rfl,hH,h1,h2,hk,hy,q⟩:=h;cases rx;obtain⟨u,rfl,ru⟩:=rv.one;obtain⟨t,rfl⟩:=ru;obtain⟨z,its,n,r,hl,e⟩:=I.lstM hH;obtain⟨w,hw,rw'⟩:=r.get hy;refine call_meets F.slot_list_pop ⟨_,e,rfl⟩ F.entry_list_pop (F.args_list_pop_2 _ _)
  (MeetsSeq.list_pop_at l its.toArray n i t k w (fitsIndex_both h1 h2) (by rw [List.size_toArray,<-hl];exact hk) (by rw [<-Array.getElem?_toList];exact hw) (by rw [List.size_toArray];omega)) ⟨e, ?_⟩
 refine⟨y,_,I.lset (its':=its.eraseIdx k) hH e ?_ (r.eraseIdx k) ?_,rw',q⟩
 ·show its.toArray.eraseIdxIfInBounds k=(its.eraseIdx k).toArray;rw [List.eraseIdxIfInBounds_toArray]
 ·have:=ay_6 xs k;omega
def dj_4:V->List V->Hp->VK->Prop:=λx vs H Q=>∃l xs,x=.ref l/\vs= []/\H l=some (.lst xs)/\Q .non (upd H l (.lst []))
theorem ck_7:MtM X "list.clear" dj_4:=by
 intro zd s σ H x vs v us Q I rx rv h;obtain⟨l,xs,rfl,rfl,hH,q⟩:=h;cases rx;have hus:=rv.zero;subst hus;obtain⟨z,its,n,r,hl,e⟩:=I.lstM hH;refine call_meets F.slot_list_clear ⟨_,e,rfl⟩ F.entry_list_clear (F.args_list_clear_1 _) (AutoSeq1.list_clear_list_0 l its.toArray n (by rw [List.size_toArray];omega)) ⟨e, ?_⟩;exact⟨.non,_,I.lset (its':=[]) (ys:=[]) hH e rfl .nil (Nat.zero_le _),rfl,q⟩
def rRep:R2:=λx y H Q=>∃l k xs,x=.ref l/\y=.int k/\H l=some (.lst xs)/\ -(2 ^ 63)<=k/\k < 2 ^ 63/\xs.length * k.toNat<=sizeLine/\
 ∀p,H p=none->Q (.ref p) (upd H p (.lst (List.replicate k.toNat xs).flatten))
theorem cw_4{α:Type}(xs:List α)(k:Nat):(List.replicate k xs).flatten.length=k * xs.length:=by
 induction k with
 |zero=>simp
 |succ k ih=>rw [List.replicate_succ,List.flatten_cons,List.length_append,ih,Nat.succ_mul,Nat.add_comm]
theorem dj_5:OpR X (binaryOp .Mult) rRep:=by
 intro zd s σ H x y v u Q I rx ry h;obtain⟨l,k,xs,rfl,rfl,hH,h1,h2,hz,q⟩:=h;cases rx;obtain⟨t,rfl⟩:=ry;obtain⟨z,its,n,r,hl,e⟩:=I.lstM hH;have zk:its.toArray.size * k.toNat<=sizeLine:=by rw [List.size_toArray,<-hl];exact hz
 have fq:¬its.toArray.size * k.toNat > (2 ^ 63 - 1) / 8:=by
  have:(sizeLine:Nat)<=(2 ^ 63 - 1) / 8:=by decide
  omega
 have fu:¬(!Builtin.List.listFitsIndex k)=true:=by
  rw [fitsIndex_both h1 h2];exact Bool.false_ne_true
 have cq:¬Builtin.List.listTooLong (its.toArray.size * k.toNat)=true:=by
  rw [ck_5 zk];exact Bool.false_ne_true
 have du:List.foldl (λx1 x2=>x1 ++ x2) #[] (List.replicate (if its.toArray.isEmpty=true then 0 else k.toNat) its.toArray)=(List.replicate k.toNat its).flatten.toArray:=by
  have f0:∀m:Nat,List.foldl (λx1 x2=>x1 ++ x2) #[] (List.replicate m its.toArray)=(List.replicate m its).flatten.toArray:=λm=>by
   have:=ay_7 its m [];rw [List.nil_append] at this;exact this
  rw [f0];cases its with
  |nil=>simp
  |cons a r'=>rw [if_neg (by simp)]
 refine wpAny_binaryOp_repeat_ref (T:= "list") (U:= "int") (by decide) ⟨_,e,rfl⟩ (λs'=>typeIs_int s' k t) noFill_list_mul F.fills_int_mul F.slot_int_rmul repeat_list F.slot_int_index.lookup
  (call_meets F.slot_int_rmul (typeIs_int s k t) F.entry_int_rmul (F.args_int_rmul_2 _ _) (int___rmul___int_list k t l its.toArray n)
   ⟨e,rfl,⟨_,e,rfl⟩,call_meets F.slot_list_mul ⟨_,e,rfl⟩ F.entry_list_mul (F.args_list_mul_2 _ _) (AutoListH.list___mul___list_int_3 l its.toArray n k t fu fq cq) ⟨e, ?_⟩⟩)
 rw [du];exact⟨.ref _,_,I.lnew (t':=s.toks) (r.rep k.toNat) (by rw [cw_4,Nat.mul_comm];exact hz),rfl,q _ I.fresh⟩
end
section
variable{prog:Program}{w:World}{A:Around}{E:Value->Shared->Prop}{s:Shared}
end
section
variable{X:Cx}
end
end L2
namespace Att
open PySem PySem.W PySem.Calls PyProof.Rows
theorem an_2{P:Params}{h:Heap}:∀(ns:List Int) (vs:List Value),WellAll P h vs (ns.map WData.int)->IntsAre vs ns:=by
 intro ns
 induction ns with
 |nil=>
  intro vs w;rw [List.map_nil] at w;cases w;exact .nil
 |cons n ns ih=>
  intro vs w;rw [List.map_cons] at w;cases w with
  |cons a b=>
   cases a;exact .cons _ _ (ih _ b)
theorem ce_4{l:OpenLaw}{n:Nat}(hn:l.most=some n){P:Params}{h:Heap}{args:List WData}{vals:List Value}
  (bo:l.row.toRowW.claim.pre args=true) (hwl:WellAll P h vals args):
  ∃a vs ns,vals= [Value.ref a]/\args= [WData.list (ns.map WData.int)]/\h.get? a=some {cls:=.type "list",data:=.seq vs.toArray}/\IntsAre vs ns/\ns.length<=n:=by
 have hsh:WShape.hasAll [] args [.list .int]=true:=(pre_splitW bo).1;have hc:l.pre.holds [] {args:=args}=true:=(pre_splitW bo).2;obtain⟨d,r,rfl,h1,h2⟩:=hasAllW_cons hsh;obtain rfl:=hasAllW_nil h2;obtain⟨xs,rfl,h3⟩:=hasW_list h1;obtain⟨ns,rfl⟩:=items_int h3;have zk:ns.length<=n:=by
  unfold OpenLaw.pre at hc;have h4:(WTm.not (.lt (.lit (.int (n:Int))) (.len (.arg 0)))).holds [] {args:=[.list (ns.map .int)]}=true:=by
   have h4:=(holds_andW hc).1;rw [hn] at h4;exact h4
  have h5:=condW_of h4 (w_not (w_lt w_lit (w_len_list (w_arg rfl))));rw [List.length_map] at h5;refine Nat.le_of_not_lt λq=> ?_;have q':(n:Int) < ((ns.length:Nat):Int):=by omega
  first
   |(rw [decide_eq_true q'] at h5;exact absurd h5 (by decide))
   |(simp at h5;omega)
 cases hwl with
 |cons w1 w2=>
  cases w2;cases w1 with
  |list ho bh=>exact⟨_,_,ns,rfl,rfl,ho,an_2 ns _ bh,zk⟩
theorem ce_5(l:OpenLaw)(args:List WData):l.row.toRowW.claim.post args (.bool true) args=true:=
 postW_of (r:=l.row.toRowW) (X:=(true ==true))
  (show WShape.has [] (.bool true) .bool=true by first|rfl|decide|simp [WShape.has,WShape.arms,WShape.armsAll])
  (show(WTm.eq .res (.lit (.bool true))).value [] {args:=args,res:=some (.bool true),after:=args}=some (.bool (true ==true)) from w_eq_bool (w_res rfl) w_lit) rfl
theorem attach_call{l:OpenLaw}{n:Nat}{q:Program}{loose:List Str}{XP:(Str->Option Value)->Heap->Prop}{YP:World->Heap->Prop}{d:DefRec}
  (hn:l.most=some n) (hdf:d.params.defaults= [])
  (call:∀(w:World) (s₀ s₁:Shared) (mg mb:Str->Option Value) (fa:Addr) (o:Obj) (pm cd doc:Value) (a:Addr) (vs:List Value) (ns:List Int),
   Ground q loose [] XP w s₀ mg mb s₁.heap->YP w s₁.heap->
   s₁.heap.get? fa=some o->o.data=.func (docDef d.name d.params d.body d.scope pm cd doc)->s₁.heap.CodeRec cd d.name->mg d.name=some (.ref fa)->
   s₁.heap.get? a=some {cls:=.type "list",data:=.seq vs.toArray}->IntsAre vs ns->ns.length<=n->s₁.gens= #[]->
   codeAny (model l.prog w) callerA (.call (.ref fa) ⟨[.ref a],[]⟩) (λr s'=>r=.ok (.ret (.bool true))/\OldK s₁.heap s'.heap/\s'.os=s₁.os/\AllBare s'.gens) s₁):
  WalkO q loose XP YP l.row.toRowW d [] (λf vs=>PySem.call f vs):=by
 intro w s₀ s₁ mg mb G Y fa o pm cd doc dV kV ho hd hcd hD hmg hg args vals as bo hlay hrd hwl hlo;obtain rfl:dV=.none:=Dflts.none hD hdf;obtain rfl:kV=.none:=Dflts.noKw hD;obtain⟨a,vs,ns,rfl,rfl,bf,hints,zk⟩:=ce_4 hn bo hwl;refine enter_call (codeAny_mono (call w s₀ s₁ mg mb fa o pm cd doc a vs ns G Y ho (fd_plain hd) hcd hmg bf hints zk hg) λr s' hq=> ?_);obtain⟨rfl,h2,h3,h4⟩:=hq;exact⟨.inl ⟨.bool true,.bool true,[],rfl,λ_=>rfl,.bool true,ce_5 l _,λ_=>⟨List.Pairwise.nil,λ_ hm=>(nomatch hm)⟩⟩,h2,h3,h4⟩
section
variable{prog:Program}{w:World}{A:Around}{E:Value->Shared->Prop}{s:Shared}{K:Frag}
end
end Att
namespace L2
open PySem PySem.Spec PyProof.Rows
theorem ay_8:∀{vs:List Value} {ns:List Int},IntsAre vs ns->Vals (ns.map V.int) vs
 |_,_,.nil=> .nil
 |_,_,.cons n t h=> .cons ⟨t,rfl⟩ (ay_8 h)
def Only(H:Hp):Prop:=∀b,H b=none\/∃o xs,H b=some (.frz o (.lst xs))
theorem ck_8{P:Program}{w:World}{K:Frag}{mg mb:Str->Option Value}{CX:CXT}{k:Nat}{fa a:Addr}{fd:FuncData}{x:Str}{sp:Sp}{s₁:Shared}{vs:List Value}{ns:List Int}
  (KX:K.In s₁.heap) (hns:s₁.heap.Ns mainGlobals mg) (hb:s₁.heap.Ns builtinsNs mb) (hbb:∀x:Str,x≠ "__name__" ->mb x=bootBuiltins x) (fm:s₁.heap.NoLimit) (hg:s₁.gens= #[])
  (ha:s₁.heap.get? a=some {cls:=.type "list",data:=.seq vs.toArray}) (hi:IntsAre vs ns) (hl:ns.length<=sizeLine) (hr:Room k callerA)
  (F:∀base:Heap,K.In base->base.Ns mainGlobals mg->FnOk P w K mg base CX k fa fd [x] sp) (cu:∀(s:Shared) (u:Value),BindsTo s fd ⟨[u],[]⟩ [(x,u)])
  (hsp:∀H:Hp,Only H->SqL K H a (ns.map V.int)->sp [.ref a] H (λv _=>v=.bl true) λ_ _ _=>False)
  (hCX:∀H e s',CX [] H s₁ (λ_ _ _=>False) e s'->False):
  codeAny (model P w) callerA (.call (.ref fa) ⟨[.ref a],[]⟩) (λr s'=>r=.ok (.ret (.bool true))/\OldK s₁.heap s'.heap/\s'.os=s₁.os/\AllBare s'.gens) s₁:=by
 have rv:=ay_8 hi;have fh:=hi.length
 
 have core:∀H:Hp,Only H->SqL K H a (ns.map V.int)->HOk P w H s₁.heap->(∀b,H b≠none->b=a)->(H a≠none->K.lookup a=none)->
   codeAny (model P w) callerA (.call (.ref fa) ⟨[.ref a],[]⟩) (λr s'=>r=.ok (.ret (.bool true))/\OldK s₁.heap s'.heap/\s'.os=s₁.os/\AllBare s'.gens) s₁:=by
  intro H hO hS hok hA hK;have ar:∀{b:Addr} {o:Obj},s₁.heap.get? b=some o->H b=none->(hidT s₁.heap H).get? b=some o:=λe n=>cj_0 e n;have noA:∀{b:Addr} {o:Obj} {es:Array DictEntry} {ep:Nat},s₁.heap.get? b=some o->o.data=.dict es ep->H b=none:=λ{b o es ep} e d=>by
   cases q:H b with
   |none=>rfl
   |some u=>
    have e':b=a:=hA b (by rw [q];simp);subst e';rw [ha] at e;cases e;have d':Data.seq vs.toArray _=Data.dict es ep:=d;cases d'
  have nsK:∀{b:Addr} {m:Str->Option Value},s₁.heap.Ns b m->(hidT s₁.heap H).Ns b m:=λ{b m} ⟨o,es,ep,e,d,r⟩=>⟨o,es,ep,ar e (noA e d),d,r⟩;have hKb:K.In (hidT s₁.heap H):=λb o e=>ar (KX b o e) (by
   cases q:H b with
   |none=>rfl
   |some u=>
    have e':b=a:=hA b (by rw [q];simp);subst e';rw [hK (by rw [q];simp)] at e;cases e)
  have hM:Mod K mg (hidT s₁.heap H):=⟨hKb,nsK hns,⟨mb,nsK hb,hbb⟩,let⟨mc,h1,h2⟩:=fm;⟨mc,nsK h1,h2⟩⟩;have e0:Env0 P w K mg (hidT s₁.heap H) callerA [] s₁ H:=⟨rfl,hM,λb o e=>cu_9 e,Nat.le_of_eq (cd_2 _ _),trivial,λb hb=>absurd (show b∈([]:List Addr) from hb) (by simp),hok,.of_eq hg⟩;refine codeAny_mono ((F _ hKb (nsK hns)).run callerA [] s₁ H ⟨[.ref a],[]⟩ [.ref a] [.ref a] _ _ hr e0 (cu s₁ (.ref a)) (.cons rfl .nil) (hsp H hO hS)) λr s' h=> ?_;cases r with
  |error e=>exact(hCX H e s' h).elim
  |ok fl=>
   cases fl with
   |next=>exact False.elim h
   |brk=>exact False.elim h
   |cont=>exact False.elim h
   |ret u=>
    obtain⟨v,H',os,bare,un,ff,r',q⟩:=h;have q':v=.bl true:=q;subst q';obtain rfl:u=Value.bool true:=r';refine⟨rfl,OldK.of_keep λb o e=> ?_,os,bare⟩;cases q:H b with
    |none=>exact un.keep b o e q (by intro z;exact absurd (show b∈([]:List Addr) from z) (by simp)) (by simp)
    |some u=>
     rcases hO b with z|⟨ob,xs,z⟩
     ·rw [q] at z;cases z
     ·have z2:=un.frzs b ob _ z;obtain⟨e1,_⟩:=hok b _ z;obtain⟨e2,_⟩:=ff b _ z2;rw [e] at e1;cases e1;exact e2
 cases hk:K.lookup a with
 |some o=>
  
  have e:=KX a o hk;rw [ha] at e;cases e;refine core (λ_=>none) (λ_=> .inl rfl) (.inr ⟨_,vs.toArray,_,hk,rfl,rfl,rfl,by rw [List.size_toArray,fh];exact hl,by simpa using rv⟩) (λb u z=>by have z':(none:Option HO)=some u:=z;cases z') (λb z=>absurd rfl z) λz=>absurd rfl z
 |none=>
  refine core (λb=>if b=a then some (.frz {cls:=.type "list",data:=.seq vs.toArray} (.lst (ns.map V.int))) else none) (λb=> ?_) (.inl (.inr ⟨{cls:=.type "list",data:=.seq vs.toArray},if_pos rfl⟩)) (λb u z=> ?_) (λb z=> ?_) λ_=>hk
  ·by_cases hb:b=a
   ·exact .inr ⟨_,_,if_pos hb⟩
   ·exact .inl (if_neg hb)
  ·by_cases hb:b=a
   ·have z':=(if_pos hb).symm.trans z;cases z';subst hb;exact⟨ha,by rw [List.length_map];exact hl,vs,_,rv,ha⟩
   ·have z':=(if_neg hb).symm.trans z;cases z'
  ·by_cases hb:b=a
   ·exact hb
   ·exact absurd (if_neg hb) z
theorem cw_5{l:PySem.W.OpenLaw}{n k:Nat}{q:Program}{loose:List Str}{XP:(Str->Option Value)->Heap->Prop}{YP:World->Heap->Prop}{d:DefRec}{K:Params->Frag}{CX:World->CXT}{sp:World->Sp}{x:Str}
  (hn:l.most=some n) (hn2:n<=sizeLine) (hdf:d.params.defaults= []) (hr:Room k callerA)
  (hY:∀(w:World) (h:Heap),YP w h->(K w.params).In h)
  (F:∀(w:World) (mg:Str->Option Value) (fa:Addr) (h:Heap),(K w.params).In h->h.Ns mainGlobals mg->mg d.name=some (.ref fa)->
   ∃fd:FuncData,(∀(s:Shared) (u:Value),BindsTo s fd ⟨[u],[]⟩ [(x,u)])/\
    ∀base:Heap,(K w.params).In base->base.Ns mainGlobals mg->FnOk l.prog w (K w.params) mg base (CX w) k fa fd [x] (sp w))
  (hsp:∀(w:World) (H:Hp) (a:Addr) (ns:List Int),ns.length<=n->Only H->SqL (K w.params) H a (ns.map V.int)->sp w [.ref a] H (λv _=>v=.bl true) λ_ _ _=>False)
  (hCX:∀(w:World) (H:Hp) (s:Shared) (e:Value) (s':Shared),CX w [] H s (λ_ _ _=>False) e s'->False):
  PySem.W.WalkO q loose XP YP l.row.toRowW d [] (λf vs=>PySem.call f vs):=by
 refine Att.attach_call hn hdf λw s₀ s₁ mg mb fa o pm cd doc a vs ns G Y ho hd hcd hmg bf hints zk hg=> ?_;have KX:=hY w _ Y;obtain⟨fd,hb,hF⟩:=F w mg fa _ KX G.T.g hmg;exact ck_8 KX G.T.g G.T.b G.T.builtins G.T.nolimit hg bf hints (Nat.le_trans zk hn2) hr hF hb (λH hO hS=>hsp w H a ns zk hO hS) λH e s'=>hCX w H s₁ e s'
def i_8(s:Stmt):Arguments:=match s with
 | .FunctionDef _ a _ _ _ _ _ _ _ _=>a
 |_=>{posonlyargs:=[],args:=[],vararg:=none,kwonlyargs:=[],kw_defaults:=[],kwarg:=none,defaults:=[]}
def Fk(s:Stmt):List Stmt:=match s with
 | .FunctionDef _ _ b _ _ _ _ _ _ _=>b
 |_=> []
def Ci(s:Stmt):Scope:=match s with
 | .FunctionDef _ _ _ _ _ _ sc _ _ _=>sc
 |_=>{kind:=.function,names:=[],isGenerator:=false,isCoroutine:=false}
abbrev CX0:CXT:=λ_ _ _ _ _ _=>False
abbrev E0:XK:=λ_ _ _=>False
structure Fun(K:Frag)(x qual:Str)(st:Stmt)(f:Addr)(fd:FuncData):Prop where
 ex:∃(oc:Value) (od:Option Addr) (kV doc pm:Value) (an:Option Addr) (zq ct:Value) (osl:Array (Option Value)),
  fd=fnOf x qual (i_8 st) (Fk st) (Ci st) .none kV doc pm an zq ct/\K.lookup f=some ⟨oc,od,.func fd,osl⟩/\codeIn K zq qual=true
 kp:keepIn K (.ref f)=true
section
variable{P:Program}{w:World}{K:Frag}{mg:Str->Option Value}{base:Heap}
theorem Fun.binds{x qual:Str}{st:Stmt}{f:Addr}{fd:FuncData}{ps:List Str}(F:Fun K x qual st f fd)
  (h:∀(kV doc pm:Value) (an:Option Addr) (zq ct:Value) (us:List Value),us.length=ps.length->bindArgs (fnOf x qual (i_8 st) (Fk st) (Ci st) .none kV doc pm an zq ct) ⟨us,[]⟩=pure (ps.zip us)):Binds K fd ps []:=by
 obtain⟨oc,od,kV,doc,pm,an,zq,ct,osl,rfl,lk,hcd⟩:=F.ex;exact .all (h kV doc pm an zq ct)
theorem br_9{x qual:Str}{st:Stmt}{f:Addr}{oc:Value}{od an:Option Addr}{osl:Array (Option Value)}{kV doc pm zq ct:Value}(l:K.lookup f=some ⟨oc,od,.func (fnOf x qual (i_8 st) (Fk st) (Ci st) .none kV doc pm an zq ct),osl⟩)
  (c:codeIn K zq qual=true) (k:keepIn K (.ref f)=true):Fun K x qual st f (fnOf x qual (i_8 st) (Fk st) (Ci st) .none kV doc pm an zq ct):=⟨⟨oc,od,kV,doc,pm,an,zq,ct,osl,rfl,l,c⟩,k⟩
end
section
variable{X:Cx}
theorem pv(i:Nat){x:Str}{pos:Pos}(hN:X.N[i]? =some x:=by rfl)(hv:Fu X.env.scope x:=by first|exact Or.inl rfl|exact Or.inr (Or.inl rfl)|exact Or.inr (Or.inr rfl))(hd:(x ==("__debug__" :Str))=false:=by decide)
  (hcd:(x ==("__classdict__" :Str))=false:=by decide):PE X (.Name x pos) (tVar i):=Ft hN hv hd hcd
end
def Same(H H':Hp):Prop:=∀b o,H b=some o->H' b=some o
theorem Same.refl(H:Hp):Same H H:=λ_ _ h=>h
theorem Same.trans{H H1 H2:Hp}(a:Same H H1)(b:Same H1 H2):Same H H2:=λc o h=>b c o (a c o h)
theorem Same.free{H H':Hp}(e:Same H H'){l:Addr}(h:H' l=Option.none):H l=Option.none:=by
 cases q:H l with
 |none=>rfl
 |some o=>
  rw [e l o q] at h;cases h
theorem Same.seq{K:Frag}{H H':Hp}{a:Addr}{xs:List V}(e:Same H H')(h:SqL K H a xs):SqL K H' a xs:=by
 rcases h with(h|⟨o,h⟩)|h
 ·exact .inl (.inl (e _ _ h))
 ·exact .inl (.inr ⟨o,e _ _ h⟩)
 ·exact .inr h
end L2
namespace L3
open PySem PySem.Spec PyProof.Rows L2
variable{K:Frag}{fd:FuncData}{mg:Str->Option Value}{us:List Value}{base:Heap}{H:Hp}{X:Cx}{pos:Pos}{v:V}
abbrev Sg:=L2.St
inductive D where
 |non|bl (b:Bool)|int (i:Int)|str (x:Str)|lst (ds:List D)|tup (ds:List D)|dic (kvs:List (Af×D))
 |exn (c:Str) (ns:List Str) (vs:List D)|obj (c:Str) (ns:List Str) (vs:List D)
structure Xn where
 c:Str
 ns:List Str
 vs:List D
inductive R(α:Type) where
 |ok (a:α)|ex (x:Xn)|no
namespace R
def bind{α β:Type}(r:R α)(k:α->R β):R β:=match r with
 | .ok a=>k a
 | .ex x=> .ex x
 | .no=> .no
@[simp] theorem bind_ok{α β:Type}(a:α)(k:α->R β):(R.ok a).bind k=k a:=rfl
@[simp] theorem bind_ex{α β:Type}(x:Xn)(k:α->R β):(R.ex x).bind k=.ex x:=rfl
@[simp] theorem bind_no{α β:Type}(k:α->R β):(R.no).bind k=.no:=rfl
end R
inductive Tn where
 |sh (d:D)|lst (ts:List Tn)|tup (ts:List Tn)|dic (zm:List (Af×Tn))|obj (c:Str) (ns:List Str) (ts:List Tn)
mutual
def Tn.d:Tn->D
 | .sh d=>d
 | .lst ts=> .lst (Tn.ds ts)
 | .tup ts=> .tup (Tn.ds ts)
 | .dic zm=> .dic (Tn.ks zm)
 | .obj c ns ts=> .obj c ns (Tn.ds ts)
def Tn.ds:List Tn->List D
 | []=> []
 |t::ts=>t.d::Tn.ds ts
def Tn.ks:List (Af×Tn)->List (Af×D)
 | []=> []
 |(k,t)::ts=>(k,t.d)::Tn.ks ts
end
def Tn.of:D->Tn
 | .lst ds=> .lst (ds.map .sh)
 | .dic kvs=> .dic (kvs.map λp=>(p.1,.sh p.2))
 | .obj c ns vs=> .obj c ns (vs.map .sh)
 |d=> .sh d
theorem Tn.ds_sh:∀ds:List D,Tn.ds (ds.map .sh)=ds
 | []=>rfl
 |d::ds=>by
  show(Tn.sh d).d::Tn.ds (ds.map .sh)=_;rw [Tn.ds_sh ds];rfl
theorem Tn.ks_sh:∀kvs:List (Af×D),Tn.ks (kvs.map λp=>(p.1,Tn.sh p.2))=kvs
 | []=>rfl
 |(k,d)::kvs=>by
  show(k,(Tn.sh d).d)::Tn.ks (kvs.map λp=>(p.1,Tn.sh p.2))=_;rw [Tn.ks_sh kvs];rfl
theorem Tn.ks_fst:∀zm:List (Af×Tn),(Tn.ks zm).map (·.1)=zm.map (·.1)
 | []=>rfl
 |(k,t)::zm=>by show k::(Tn.ks zm).map (·.1)=_;rw [Tn.ks_fst zm];rfl
theorem Tn.ks_snd:∀zm:List (Af×Tn),(Tn.ks zm).map (·.2)=Tn.ds (zm.map (·.2))
 | []=>rfl
 |(k,t)::zm=>by show t.d::(Tn.ks zm).map (·.2)=_;rw [Tn.ks_snd zm];rfl
theorem Tn.of_d(d:D):(Tn.of d).d=d:=by
 cases d with
 |lst ds=>show D.lst (Tn.ds (ds.map .sh))=_;rw [Tn.ds_sh]
 |dic kvs=>show D.dic (Tn.ks (kvs.map λp=>(p.1,.sh p.2)))=_;rw [Tn.ks_sh]
 |obj c ns vs=>show D.obj c ns (Tn.ds (vs.map .sh))=_;rw [Tn.ds_sh]
 |_=>rfl
inductive W where
 |sh (d:D)|ow (d:D)|tr (t:Tn)
def W.d:W->D
 | .sh d=>d
 | .ow d=>d
 | .tr t=>t.d
@[simp] theorem W.d_sh(d:D):(W.sh d).d=d:=rfl
@[simp] theorem W.d_ow(d:D):(W.ow d).d=d:=rfl
@[simp] theorem W.d_tr(t:Tn):(W.tr t).d=t.d:=rfl
def ClsAt(K:Frag)(c:Str)(C:Addr):Prop:=nsIn K mainGlobals c=some (some (.ref C))
def XO(a C:Addr)(dx:Option Addr):HO:=.ext λh=>∃us sl,h.get? a=some ⟨.ref C,dx,.fields us,sl⟩/\us[2]? =some .none
mutual
inductive Has(K:Frag)(G:Hp):V->D->Prop where
 |non:Has K G .non .non
 |bl (b:Bool):Has K G (.bl b) (.bl b)
 |int (i:Int):Has K G (.int i) (.int i)
 |str (x:Str):Has K G (.str x) (.str x)
 |lst {a:Addr} {vs:List V} {ds:List D} (h:SqL K G a vs) (r:HasL K G vs ds):Has K G (.ref a) (.lst ds)
 |tup {a:Addr} {vs:List V} {ds:List D} (h:SqT K G a vs) (r:HasL K G vs ds):Has K G (.ref a) (.tup ds)
 |exn0 {a C:Addr} {o:Obj} {c:Str} (hc:ClsAt K c C) (h:G a=some (.frz o (XO a C none))):Has K G (.ref a) (.exn c [] [])
 |exn1 {a C d:Addr} {o:Obj} {c:Str} {ns:List Str} {us:List V} {vs:List D} (hc:ClsAt K c C) (h:G a=some (.frz o (XO a C (some d)))) (hd:G d=some (.xd (ns.zip us))) (hl:ns.length=us.length) (r:HasL K G us vs):Has K G (.ref a) (.exn c ns vs)
 |dic {a:Addr} {kvs:List (Af×V)} {kds:List (Af×D)} (h:Rd G a (.dK kvs)) (hk:kvs.map (·.1)=kds.map (·.1)) (r:HasL K G (kvs.map (·.2)) (kds.map (·.2))):Has K G (.ref a) (.dic kds)
 |obj {a C dx:Addr} {c:Str} {ns:List Str} {us:List V} {vs:List D} (hc:ClsAt K c C) (h:G a=some (.ins C dx (ns.zip us))) (hl:ns.length=us.length) (r:HasL K G us vs):Has K G (.ref a) (.obj c ns vs)
inductive HasL(K:Frag)(G:Hp):List V->List D->Prop where
 |nil:HasL K G [] []
 |cons {v:V} {d:D} {vs:List V} {ds:List D} (h:Has K G v d) (r:HasL K G vs ds):HasL K G (v::vs) (d::ds)
end
abbrev AS:=Addr->Prop
mutual
inductive Ow(K:Frag)(G H:Hp):V->Tn->AS->Prop where
 |sh {v:V} {d:D} {S:AS} (h:Has K G v d):Ow K G H v (.sh d) S
 |lst {a:Addr} {vs:List V} {ts:List Tn} {S S1:AS} (h:H a=some (.lst vs)) (ha:S a) (sub:∀b,S1 b->S b/\b≠a) (r:OwL K G H vs ts S1):Ow K G H (.ref a) (.lst ts) S
 |tup {a:Addr} {vs:List V} {ts:List Tn} {S S1:AS} (h:H a=some (.tup vs)) (ha:S a) (sub:∀b,S1 b->S b/\b≠a) (r:OwL K G H vs ts S1):Ow K G H (.ref a) (.tup ts) S
 |dic {a:Addr} {kvs:List (Af×V)} {zm:List (Af×Tn)} {S S1:AS} (h:H a=some (.dK kvs)) (hk:kvs.map (·.1)=zm.map (·.1)) (ha:S a) (sub:∀b,S1 b->S b/\b≠a) (r:OwL K G H (kvs.map (·.2)) (zm.map (·.2)) S1):Ow K G H (.ref a) (.dic zm) S
 |obj {a C dx:Addr} {c:Str} {ns:List Str} {us:List V} {ts:List Tn} {S S1:AS} (hc:ClsAt K c C) (h:H a=some (.ins C dx (ns.zip us))) (hl:ns.length=us.length) (ha:S a) (sub:∀b,S1 b->S b/\b≠a) (r:OwL K G H us ts S1):Ow K G H (.ref a) (.obj c ns ts) S
inductive OwL(K:Frag)(G H:Hp):List V->List Tn->AS->Prop where
 |nil {S:AS}:OwL K G H [] [] S
 |cons {v:V} {t:Tn} {vs:List V} {ts:List Tn} {S S1 S2:AS} (h:Ow K G H v t S1) (r:OwL K G H vs ts S2) (dj:∀b,S1 b->S2 b->False) (s1:∀b,S1 b->S b) (s2:∀b,S2 b->S b):OwL K G H (v::vs) (t::ts) S
end
theorem Same.rdD{H H':Hp}{a:Addr}{u:HO}(e:Same H H')(h:Rd H a u):Rd H' a u:=by
 rcases h with h|⟨o,h⟩
 ·exact .inl (e _ _ h)
 ·exact .inr ⟨o,e _ _ h⟩
theorem Same.tupS{H H':Hp}{a:Addr}{xs:List V}(e:Same H H')(h:SqT K H a xs):SqT K H' a xs:=by
 rcases h with(h|⟨o,h⟩)|h
 ·exact .inl (.inl (e _ _ h))
 ·exact .inl (.inr ⟨o,e _ _ h⟩)
 ·exact .inr h
mutual
theorem Has.mono{G G':Hp}(e:Same G G'):∀{v:V} {d:D},Has K G v d->Has K G' v d
 |_,_,.non=> .non
 |_,_,.bl b=> .bl b
 |_,_,.int i=> .int i
 |_,_,.str x=> .str x
 |_,_,.lst h r=> .lst (e.seq h) (HasL.mono e r)
 |_,_,.tup h r=> .tup (Same.tupS e h) (HasL.mono e r)
 |_,_,.exn0 hc h=> .exn0 hc (e _ _ h)
 |_,_,.exn1 hc h hd hl r=> .exn1 hc (e _ _ h) (e _ _ hd) hl (HasL.mono e r)
 |_,_,.dic h hk r=> .dic (Same.rdD e h) hk (HasL.mono e r)
 |_,_,.obj hc h hl r=> .obj hc (e _ _ h) hl (HasL.mono e r)
theorem HasL.mono{G G':Hp}(e:Same G G'):∀{vs:List V} {ds:List D},HasL K G vs ds->HasL K G' vs ds
 |_,_,.nil=> .nil
 |_,_,.cons h r=> .cons (Has.mono e h) (HasL.mono e r)
end
theorem HasL.length{G:Hp}:∀{vs:List V} {ds:List D},HasL K G vs ds->vs.length=ds.length
 |_,_,.nil=>rfl
 |_,_,.cons _ r=>by rw [List.length_cons,List.length_cons,r.length]
theorem HasL.append{G:Hp}:∀{vs ws:List V} {ds es:List D},HasL K G vs ds->HasL K G ws es->HasL K G (vs ++ ws) (ds ++ es)
 |_,_,_,_,.nil,s=>s
 |_,_,_,_,.cons h r,s=> .cons h (r.append s)
theorem HasL.get{G:Hp}:∀{vs:List V} {ds:List D} {i:Nat} {d:D},HasL K G vs ds->ds[i]? =some d->∃v,vs[i]? =some v/\Has K G v d
 |_,_,_,_,.nil,e=>by simp at e
 |_,_,0,_,.cons h _,e=>by simp at e;subst e;exact⟨_,rfl,h⟩
 |_,_,i + 1,d,.cons _ r,e=>by
  obtain⟨u,h1,h2⟩:=HasL.get (i:=i) (d:=d) r (by simpa using e);exact⟨u,by simpa using h1,h2⟩
theorem HasL.take{G:Hp}:∀{vs:List V} {ds:List D} (n:Nat),HasL K G vs ds->HasL K G (vs.take n) (ds.take n)
 |_,_,0,_=> .nil
 |_,_,_ + 1,.nil=> .nil
 |_,_,n + 1,.cons h r=> .cons h (HasL.take n r)
theorem HasL.set{G:Hp}{d:D}(h:Has K G v d):∀{vs:List V} {ds:List D} (i:Nat),HasL K G vs ds->HasL K G (vs.set i v) (ds.set i d)
 |_,_,_,.nil=> .nil
 |_,_,0,.cons _ r=> .cons h r
 |_,_,i + 1,.cons q r=> .cons q (HasL.set h i r)
mutual
theorem Ow.mono{G G' H H':Hp}(e:Same G G'):∀{v:V} {d:Tn} {S S':AS},Ow K G H v d S->(∀b o,S b->H b=some o->H' b=some o)->(∀b,S b->S' b)->Ow K G' H' v d S'
 |_,_,_,_,.sh h,_,_=> .sh (h.mono e)
 |_,_,_,_,.lst h ha sub r,f,i=> .lst (f _ _ ha h) (i _ ha) (λb hb=>⟨i b (sub b hb).1,(sub b hb).2⟩) (OwL.mono e r (λb o hb q=>f b o (sub b hb).1 q) λ_ q=>q)
 |_,_,_,_,.tup h ha sub r,f,i=> .tup (f _ _ ha h) (i _ ha) (λb hb=>⟨i b (sub b hb).1,(sub b hb).2⟩) (OwL.mono e r (λb o hb q=>f b o (sub b hb).1 q) λ_ q=>q)
 |_,_,_,_,.dic h hk ha sub r,f,i=> .dic (f _ _ ha h) hk (i _ ha) (λb hb=>⟨i b (sub b hb).1,(sub b hb).2⟩) (OwL.mono e r (λb o hb q=>f b o (sub b hb).1 q) λ_ q=>q)
 |_,_,_,_,.obj hc h hl ha sub r,f,i=> .obj hc (f _ _ ha h) hl (i _ ha) (λb hb=>⟨i b (sub b hb).1,(sub b hb).2⟩) (OwL.mono e r (λb o hb q=>f b o (sub b hb).1 q) λ_ q=>q)
theorem OwL.mono{G G' H H':Hp}(e:Same G G'):∀{vs:List V} {ds:List Tn} {S S':AS},OwL K G H vs ds S->(∀b o,S b->H b=some o->H' b=some o)->(∀b,S b->S' b)->OwL K G' H' vs ds S'
 |_,_,_,_,.nil,_,_=> .nil
 |_,_,_,_,.cons h r dj s1 s2,f,i=> .cons (Ow.mono e h (λb o hb q=>f b o (s1 b hb) q) λ_ q=>q) (OwL.mono e r (λb o hb q=>f b o (s2 b hb) q) λ_ q=>q) dj (λb q=>i b (s1 b q)) λb q=>i b (s2 b q)
end
mutual
theorem Ow.has{G G' H:Hp}(e:Same G G'):∀{v:V} {d:Tn} {S:AS},Ow K G H v d S->(∀b o,S b->H b=some o->G' b=some o)->Has K G' v d.d
 |_,_,_,.sh h,_=>h.mono e
 |_,_,_,.lst h ha sub r,f=> .lst (SqL.of (f _ _ ha h)) (OwL.has e r λb o hb q=>f b o (sub b hb).1 q)
 |_,_,_,.tup h ha sub r,f=> .tup (SqT.of (f _ _ ha h)) (OwL.has e r λb o hb q=>f b o (sub b hb).1 q)
 |_,_,_,.dic h hk ha sub r,f=> .dic (.inl (f _ _ ha h)) (by rw [Tn.ks_fst];exact hk) (by rw [Tn.ks_snd];exact OwL.has e r λb o hb q=>f b o (sub b hb).1 q)
 |_,_,_,.obj hc h hl ha sub r,f=> .obj hc (f _ _ ha h) hl (OwL.has e r λb o hb q=>f b o (sub b hb).1 q)
theorem OwL.has{G G' H:Hp}(e:Same G G'):∀{vs:List V} {ds:List Tn} {S:AS},OwL K G H vs ds S->(∀b o,S b->H b=some o->G' b=some o)->HasL K G' vs (Tn.ds ds)
 |_,_,_,.nil,_=> .nil
 |_,_,_,.cons h r dj s1 s2,f=> .cons (Ow.has e h λb o hb q=>f b o (s1 b hb) q) (OwL.has e r λb o hb q=>f b o (s2 b hb) q)
end
theorem OwL.of{G H:Hp}:∀{vs:List V} {ds:List D} {S:AS},HasL K G vs ds->OwL K G H vs (ds.map .sh) S
 |_,_,_,.nil=> .nil
 |_,_,_,.cons h r=> .cons (S1:=λ_=>False) (S2:=λ_=>False) (.sh h) (OwL.of r) (λ_ z _=>z) (λ_ z=>z.elim) λ_ z=>z.elim
theorem OwL.off{G H:Hp}:∀{vs:List V} {ds:List D} {S:AS},OwL K G H vs (ds.map .sh) S->HasL K G vs ds
 |_,[],_,h=>by cases h;exact .nil
 |_,d::ds,_,h=>by
  cases h with
  |cons h r dj s1 s2=>
   cases h with
   |sh h=>exact .cons h (OwL.off r)
theorem OwL.length{G H:Hp}:∀{vs:List V} {ds:List Tn} {S:AS},OwL K G H vs ds S->vs.length=ds.length
 |_,_,_,.nil=>rfl
 |_,_,_,.cons _ r _ _ _=>by rw [List.length_cons,List.length_cons,r.length]
theorem Ow.list{G H:Hp}{a:Addr}{vs:List V}{ds:List D}{S:AS}(h:H a=some (.lst vs))(ha:S a)(r:HasL K G vs ds):Ow K G H (.ref a) (Tn.of (.lst ds)) S:=
 .lst (S1:=λ_=>False) h ha (λ_ z=>z.elim) (.of r)
theorem Ow.list_of{G H:Hp}{ds:List D}{S:AS}(t:Ow K G H v (Tn.of (.lst ds)) S):∃a vs,v=.ref a/\S a/\H a=some (.lst vs)/\HasL K G vs ds:=by
 cases t with
 |lst h ha sub r=>exact⟨_,_,rfl,ha,h,r.off⟩
theorem ck_9(kds:List (Af×D)):(kds.map λp=>(p.1,Tn.sh p.2)).map (·.2)=(kds.map (·.2)).map Tn.sh:=by
 rw [List.map_map,List.map_map];rfl
theorem bx_3(kds:List (Af×D)):(kds.map λp=>(p.1,Tn.sh p.2)).map (·.1)=kds.map (·.1):=by
 rw [List.map_map];rfl
theorem Ow.dict{G H:Hp}{a:Addr}{kvs:List (Af×V)}{kds:List (Af×D)}{S:AS}(h:H a=some (.dK kvs))(hk:kvs.map (·.1)=kds.map (·.1))(ha:S a)(r:HasL K G (kvs.map (·.2)) (kds.map (·.2))):Ow K G H (.ref a) (Tn.of (.dic kds)) S:=
 .dic (S1:=λ_=>False) h (by rw [bx_3];exact hk) ha (λ_ z=>z.elim) (by rw [ck_9];exact .of r)
theorem Ow.dict_of{G H:Hp}{kds:List (Af×D)}{S:AS}(t:Ow K G H v (Tn.of (.dic kds)) S):∃a kvs,v=.ref a/\S a/\H a=some (.dK kvs)/\kvs.map (·.1)=kds.map (·.1)/\HasL K G (kvs.map (·.2)) (kds.map (·.2)):=by
 generalize e:Tn.of (.dic kds)=t' at t;cases t with
 |dic h hk ha sub r=>
  injection e with e
  subst e;rw [ck_9] at r;rw [bx_3] at hk;exact⟨_,_,rfl,ha,h,hk,r.off⟩
 |_=>cases e
structure Step(G H G' H':Hp):Prop where
 hh:Same H H'
 gh:Same G' H'
 gg:Same G G'
 nw:∀b,G b=none->H b≠none->G' b=none
theorem Step.refl{G H:Hp}(h:Same G H):Step G H G H:=⟨Same.refl _,h,Same.refl _,λ_ e _=>e⟩
theorem Step.trans{G H G1 H1 G2 H2:Hp}(a:Step G H G1 H1)(b:Step G1 H1 G2 H2):Step G H G2 H2:=
 ⟨a.hh.trans b.hh,b.gh,a.gg.trans b.gg,λc e n=>b.nw c (a.nw c e n) λz=>n (a.hh.free z)⟩
theorem g_4{p:Addr}(h:H p=none)(o:HO):Same H (upd H p o):=λb u q=>by rw [An (Ef q h)];exact q
theorem q_4{G H:Hp}(h:Same G H)(p:Addr)(o:HO):Same (upd G p o) (upd H p o):=λb u q=>by
 by_cases e:b=p
 ·subst e;rw [Ba] at q⊢;exact q
 ·rw [An e] at q⊢;exact h b u q
theorem Step.new{G H:Hp}(h:Same G H){p:Addr}(e:H p=none)(o:HO):Step G H (L2.upd G p o) (L2.upd H p o):=
 ⟨g_4 e o,q_4 h p o,g_4 (h.free e) o,λb n z=>by
  by_cases q:b=p
  ·subst q;exact absurd e z
  ·rw [An q];exact n⟩
theorem Step.own{G H:Hp}(h:Same G H){p:Addr}(e:H p=none)(o:HO):Step G H G (L2.upd H p o):=
 ⟨g_4 e o,h.trans (g_4 e o),Same.refl _,λ_ n _=>n⟩
open Classical in
def Cv(G H:Hp)(S:AS):Hp:=λb=>if S b then H b else G b
def WP(K:Frag)(G H:Hp)(w:W)(Q:VK):Prop:=match w with
 | .sh d=>∀v G' H',Step G H G' H'->Has K G' v d->Q v H'
 | .ow d=>∀v S G' H',Step G H G' H'->(∀a,S a->H a=none/\G' a=none/\H' a≠none)->Ow K G' H' v (Tn.of d) S->Q v H'
 | .tr t=>∀v S G' H',Step G H G' H'->(∀a,S a->H a=none/\G' a=none/\H' a≠none)->Ow K G' H' v t S->Q v H'
structure EXT where
 p:Xn->Hp->Hp->Prop
 mono:∀x G H G' H',Step G H G' H'->p x G H->p x G' H'
def EX0:EXT:=⟨λ_ _ _=>False,λ_ _ _ _ _ _ h=>h⟩
abbrev Ay:=Sg->EXT
def Bq:Ay:=λ_=>EX0
def Out(K:Frag)(EX:EXT)(G H:Hp)(r:R W)(Q:VK):Prop:=match r with
 | .ok w=>WP K G H w Q
 | .ex x=>EX.p x G H
 | .no=>False
section
variable{K:Frag}{EX:EXT}{G H G' H':Hp}{Q Q':VK}{w:W}
theorem WP.mono(s:Step G H G' H')(h:WP K G H w Q):WP K G' H' w Q:=by
 cases w with
 |sh d=>exact λv G2 H2 s2 r=>h v G2 H2 (s.trans s2) r
 |ow d=>exact λv S G2 H2 s2 fr t=>h v S G2 H2 (s.trans s2) (λa ha=>⟨s.hh.free (fr a ha).1,(fr a ha).2⟩) t
 |tr d=>exact λv S G2 H2 s2 fr t=>h v S G2 H2 (s.trans s2) (λa ha=>⟨s.hh.free (fr a ha).1,(fr a ha).2⟩) t
theorem Out.mono{r:R W}(s:Step G H G' H')(h:Out K EX G H r Q):Out K EX G' H' r Q:=by
 cases r with
 |ok w=>exact WP.mono s h
 |ex x=>exact EX.mono _ _ _ _ _ s h
 |no=>exact h
theorem WP.join{t:Tn}{S:AS}(h:∀v G' H',Step G H G' H'->Has K G' v t.d->Q v H')(s:Step G H G' H')(fr:∀a,S a->H a=none/\G' a=none/\H' a≠none)(t:Ow K G' H' v t S):Q v H':=by
 have sg:Same G' (Cv G' H' S):=λb o q=>by
  unfold Cv
  split
  ·rename_i hb;rw [(fr b hb).2.1] at q;cases q
  ·exact q
 refine h v (Cv G' H' S) H' ⟨s.hh,λb o q=> ?_,s.gg.trans sg,λb n z=> ?_⟩ (t.has sg λb o hb q=> ?_)
 ·unfold Cv at q
  split at q
  ·exact q
  ·exact s.gh b o q
 ·unfold Cv
  split
  ·rename_i hb;exact absurd (fr b hb).1 z
  ·exact s.nw b n z
 ·unfold Cv;rw [if_pos hb];exact q
theorem WP.intro(h:∀v G' H',Step G H G' H'->Has K G' v w.d->Q v H'):WP K G H w Q:=by
 cases w with
 |sh d=>exact h
 |ow d=>exact λv S G' H' s fr t=>WP.join (t:=Tn.of d) (by rw [Tn.of_d];exact h) s fr t
 |tr d=>exact λv S G' H' s fr t=>WP.join h s fr t
theorem WP.sh(h:WP K G H (.sh w.d) Q):WP K G H w Q:=WP.intro h
theorem WP.use{d:D}(h:WP K G H (.sh d) Q)(s:Same G H)(r:Has K G v d):Q v H:=h v G H (Step.refl s) r
end
inductive ExcAt(K:Frag)(G:Hp):Value->Option Addr->Xn->Prop where
 |bare {C:Addr} {c:Str} (hc:ClsAt K c C):ExcAt K G (.ref C) none ⟨c,[],[]⟩
 |with_ {C d:Addr} {c:Str} {ns:List Str} {us:List V} {vs:List D} (hc:ClsAt K c C) (hd:G d=some (.xd (ns.zip us))) (hl:ns.length=us.length) (r:HasL K G us vs):ExcAt K G (.ref C) (some d) ⟨c,ns,vs⟩
def EXof(K:Frag)(E:XK):EXT:=⟨λx G H=>∀cls dx G' H',Step G H G' H'->ExcAt K G' cls dx x->E cls dx H',λ_ _ _ _ _ s h cls dx G2 H2 s2=>h cls dx G2 H2 (s.trans s2)⟩
def EXE(K:Frag)(EX:EXT):XK:=λcls dx H=>∃x G,Same G H/\ExcAt K G cls dx x/\EX.p x G H
theorem EXE.of{E:XK}{cls:Value}{dx:Option Addr}(h:EXE K (EXof K E) cls dx H):E cls dx H:=by
 obtain⟨x,G,s,e,q⟩:=h;exact q cls dx G H (Step.refl s) e
theorem EXof.in{EX:EXT}{G H:Hp}{x:Xn}(q:EX.p x G H):(EXof K (EXE K EX)).p x G H:=λ_ _ G' H' st e=>⟨x,G',st.gh,e,EX.mono _ _ _ _ _ st q⟩
abbrev DE:=List (Option D)
abbrev FE:=DE->R W
abbrev FT:=DE->R Bool
abbrev FA:=DE->R (List D)
structure HasS(K:Frag)(G:Hp)(σ:Sg)(δ:DE):Prop where
 len:σ.length=δ.length
 get:∀(i:Nat) (d:D),δ[i]? =some (some d)->∃v,σ[i]? =some (some v)/\Has K G v d
theorem HasS.mono{G G':Hp}{σ:Sg}{δ:DE}(e:Same G G')(h:HasS K G σ δ):HasS K G' σ δ:=⟨h.len,λi d q=>by
 obtain⟨v,e1,r⟩:=h.get i d q;exact⟨v,e1,r.mono e⟩⟩
def tD(K:Frag)(EX:Ay)(f:FE):TE:=λ σ H Q=>∃G δ,Same G H/\HasS K G σ δ/\Out K (EX σ) G H (f δ) Q
def tDt(K:Frag)(EX:Ay)(f:FT):TT:=λ σ H Q=>∃G δ,Same G H/\HasS K G σ δ/\match f δ with
 | .ok b=>∀G' H',Step G H G' H'->Q b H'
 | .ex x=>(EX σ).p x G H
 | .no=>False
def tDa(K:Frag)(EX:Ay)(f:FA):TA:=λ σ H Q=>∃G δ,Same G H/\HasS K G σ δ/\match f δ with
 | .ok ds=>∀vs G' H',Step G H G' H'->HasL K G' vs ds->Q vs H'
 | .ex x=>(EX σ).p x G H
 | .no=>False
abbrev ED(X:Cx)(EX:Ay)(e:Expr)(f:FE):Prop:=PE X e (tD X.K EX f)
abbrev TD(X:Cx)(EX:Ay)(e:Expr)(f:FT):Prop:=PT X e (tDt X.K EX f)
abbrev AD(X:Cx)(EX:Ay)(es:List Expr)(f:FA):Prop:=PA X es (tDa X.K EX f)
theorem PE.imp{e:Expr}{t t':TE}(h:PE X e t)(i:∀σ H Q,t' σ H Q->t σ H Q):PE X e t':=λzd s σ H Q I q=>h zd s σ H Q I (i σ H Q q)
theorem PT.imp{e:Expr}{t t':TT}(h:PT X e t)(i:∀σ H Q,t' σ H Q->t σ H Q):PT X e t':=λzd s σ H Q I q=>h zd s σ H Q I (i σ H Q q)
theorem PW.imp{e:Expr}{t t':TT}(h:PW X e t)(i:∀σ H Q,t' σ H Q->t σ H Q):PW X e t':=λwh zd s σ H Q I q=>h wh zd s σ H Q I (i σ H Q q)
theorem PA.imp{e:List Expr}{t t':TA}(h:PA X e t)(i:∀σ H Q,t' σ H Q->t σ H Q):PA X e t':=λpos zd s σ H Q I q=>h pos zd s σ H Q I (i σ H Q q)
theorem PS.imp{e:Stmt}{t t':TS}(h:PS X e t)(i:∀D σ H,t' D σ H->t D σ H):PS X e t':=λzd s σ H D I q=>h zd s σ H D I (i D σ H q)
theorem PSs.imp{e:List Stmt}{t t':TS}(h:PSs X e t)(i:∀D σ H,t' D σ H->t D σ H):PSs X e t':=λzd s σ H D I q=>h zd s σ H D I (i D σ H q)
section
variable{K:Frag}{EX:Ay}{G H:Hp}{σ:Sg}{δ:DE}{Q:VK}
theorem tD.seq{f:FE}{k:W->R W}{P:VK}(g:Same G H)(s:HasS K G σ δ)(h:Out K (EX σ) G H ((f δ).bind k) Q)
  (i:∀w v G' H',f δ=.ok w->Step G H G' H'->Has K G' v w.d->Out K (EX σ) G' H' (k w) Q->P v H'):tD K EX f σ H P:=by
 refine⟨G,δ,g,s, ?_⟩;cases e:f δ with
 |ok w=>
  rw [e] at h;exact WP.intro λv G' H' st r=>i w v G' H' e st r (Out.mono st h)
 |ex x=>rw [e] at h;exact h
 |no=>rw [e] at h;exact h
theorem tDt.seq{f:FT}{k:Bool->R W}{P:Bool->Hp->Prop}(g:Same G H)(s:HasS K G σ δ)(h:Out K (EX σ) G H ((f δ).bind k) Q)
  (i:∀b G' H',f δ=.ok b->Step G H G' H'->Out K (EX σ) G' H' (k b) Q->P b H'):tDt K EX f σ H P:=by
 refine⟨G,δ,g,s, ?_⟩;cases e:f δ with
 |ok w=>
  rw [e] at h;exact λG' H' st=>i w G' H' e st (Out.mono st h)
 |ex x=>rw [e] at h;exact h
 |no=>rw [e] at h;exact h
theorem tDa.seq{f:FA}{k:List D->R W}{P:List V->Hp->Prop}(g:Same G H)(s:HasS K G σ δ)(h:Out K (EX σ) G H ((f δ).bind k) Q)
  (i:∀ds vs G' H',f δ=.ok ds->Step G H G' H'->HasL K G' vs ds->Out K (EX σ) G' H' (k ds) Q->P vs H'):tDa K EX f σ H P:=by
 refine⟨G,δ,g,s, ?_⟩;cases e:f δ with
 |ok w=>
  rw [e] at h;exact λvs G' H' st r=>i w vs G' H' e st r (Out.mono st h)
 |ex x=>rw [e] at h;exact h
 |no=>rw [e] at h;exact h
end
theorem v_1{EX:EXT}{G H:Hp}{Q:VK}{ds:List D}{vs:List V}(o:Out K EX G H (.ok (.ow (.lst ds))) Q)(g:Same G H)(r:HasL K G vs ds):∀p,H p=none->Q (.ref p) (upd H p (.lst vs)):=
 λp hp=>o (.ref p) (λb=>b=p) G _ (Step.own g hp _) (λa e=>by subst e;exact⟨hp,g.free hp,by rw [Ba];simp⟩) (.list Ba rfl r)
end L3
namespace L3
open PySem PySem.Spec PyProof.Rows L2
variable{K:Frag}{fd:FuncData}{mg:Str->Option Value}{us:List Value}{base:Heap}{H:Hp}{X:Cx}{pos:Pos}{v:V}
def HdOk(A:Around)(h:Heap):Prop:=A.handled=none\/∃(x:Addr) (o:Obj) (us:Array Value),A.handled=some (.ref x)/\h.get? x=some o/\o.data=.fields us/\us[2]? =some .none
theorem HdOk.kept{A:Around}{h h':Heap}(z:HdOk A h)(k:∀(x:Addr) (o:Obj),A.handled=some (.ref x)->h.get? x=some o->h'.get? x=some o):HdOk A h':=by
 rcases z with z|⟨x,o,us,e,g,r⟩
 ·exact .inl z
 ·exact .inr ⟨x,o,us,e,k x o e g,r⟩
section
variable{prog:Program}{w:World}{A:Around}{E:Value->Shared->Prop}{s:Shared}
end
structure Tr(h:Heap)(a C:Addr)(dx:Option Addr)(fl:Value)(T:Addr):Prop where
 ob:∃o us,h.get? a=some o/\o.cls=.ref C/\o.dict=dx/\o.data=.fields us/\us[1]? =some (.ref T)/\us[2]? =some .none
 ne:T≠a
 tb:∃o us,h.get? T=some o/\o.data=.fields us/\us[3]? =some fl
structure KeepX(xs fr:List Addr)(h h':Heap):Prop where
 same:∀b o,b∉xs->b∉fr->h.get? b=some o->h'.get? b=some o
 slot:∀b o,b∉xs->h.get? b=some o->∃sl,h'.get? b=some {o with slots:=sl}
theorem KeepX.trans{xs ys fr:List Addr}{h1 h2 h3:Heap}(a:KeepX xs fr h1 h2)(b:KeepX ys fr h2 h3):KeepX (xs ++ ys) fr h1 h3:=
 ⟨λc o n m e=>b.same c o (λz=>n (List.mem_append_right _ z)) m (a.same c o (λz=>n (List.mem_append_left _ z)) m e),λc o n e=>by
  obtain⟨sl,e1⟩:=a.slot c o (λz=>n (List.mem_append_left _ z)) e;obtain⟨sl',e2⟩:=b.slot c _ (λz=>n (List.mem_append_right _ z)) e1;exact⟨sl',e2⟩⟩
theorem KeepX.of_same{xs fr:List Addr}{h h':Heap}(k:∀b o,b∉xs->h.get? b=some o->h'.get? b=some o):KeepX xs fr h h':=
 ⟨λb o n _ e=>k b o n e,λb o n e=>⟨o.slots,k b o n e⟩⟩
theorem cl_0(o:Obj)(f:Array Value->Array Value):(o.mapFields f).dict=o.dict:=by
 obtain⟨c,d,dt,sl⟩:=o;cases dt <;> rfl
section
variable{M:Model}{A:Around}{E:Value->Shared->Prop}{s:Shared}{env:Env}{outer:List Env}{base:Heap}{L a C:Addr}{dx:Option Addr}{Q:Unit->Shared->Prop}
theorem bx_4{o:Obj}{us:Array Value}{head:Value}{b:Bool}(hfr:A.frames=some (env::outer))(hl:s.heap.FunFrames base (env::outer))(hf:env.frame=some L)
  (he:s.heap.get? a=some o) (hc:o.cls=.ref C) (hx:o.dict=dx) (hd:o.data=.fields us) (hz:1 < us.size) (c2:us[2]? =some .none)
  (h:∀h' T,s.heap.objs.size<=T->KeepX [a] (frs (env::outer)) s.heap h'->Tr h' a C dx (rawInt L) T->Q () {s with heap:=h'}):
  wpAny M A (do let fv<-frameOf env;let pl<-entryPlaceOf L b;let en<-EntryCells.newEntry head fv .none (rawInt L) .none pl;setField (.ref a) 1 en) Q E s:=by
 have nfr:a∉frs (env::outer):=λhm=>by
  obtain⟨_,u,hu,hn⟩:=hl.mem hm;rw [he] at hu;cases hu;exact hn us hd
 refine wpAny_bind (wpAny_frameOf_fun hfr hl hf λh1 so=> ?_);refine wpAny_bind (wpAny_entryPlaceOf λpl hpl=> ?_);unfold EntryCells.newEntry newFields;refine wpAny_bind (wpAny_newObj_type ?_ (hpl.sizeOk5 _ _ _ _ _));have e1:h1.get? a=some o:=(so.2.1 a nfr).trans he;generalize hT:({cls:=.type "traceback",dict:=none,data:=.fields ([head,.ref L,.none,rawInt L,.none] ++ (if pl.isEmpty then List.replicate 6 Value.none else pl)).toArray}:Obj)=oT;have eT:oT.data=.fields ([head,.ref L,.none,rawInt L,.none] ++ (if pl.isEmpty then List.replicate 6 Value.none else pl)).toArray:=by rw [<-hT]
 have e2:(h1.push oT).get? a=some o:=Heap.get?_push_of_some oT e1;refine wpAny_setField e2 hd hz ?_;have sz:h1.objs.size=s.heap.objs.size:=so.1;have ltA:a < s.heap.objs.size:=Heap.lt_size he;have neT:h1.objs.size≠a:=λz=>absurd ltA (by rw [<-z,sz];exact Nat.lt_irrefl _);have d3:=Obj.data_mapFields hd (·.setIfInBounds 1 (Value.ref h1.objs.size));refine h _ h1.objs.size (by rw [sz];exact Nat.le_refl _) ⟨λb u n m e=> ?_,λb u n e=> ?_⟩ ⟨⟨_,_,Heap.get?_update_self _ e2 (Obj.isFreed_of_fields d3),(Obj.cls_mapFields _ _).trans hc,(cl_0 _ _).trans hx,d3, ?_, ?_⟩,neT,⟨oT,_, ?_,eT, ?_⟩⟩
 ·have nb:a≠b:=λz=>n (by simp [z]);rw [Heap.get?_update_other _ _ nb];exact Heap.get?_push_of_some oT ((so.2.1 b m).trans e)
 ·have nb:a≠b:=λz=>n (by simp [z]);obtain⟨sl,es⟩:=so.2.2 b u e;exact⟨sl,by rw [Heap.get?_update_other _ _ nb];exact Heap.get?_push_of_some oT es⟩
 ·simp [hz]
 ·rw [<-c2];simp
 ·rw [Heap.get?_update_other _ _ (Ne.symm neT)];exact Heap.get?_push_size h1 (Obj.isFreed_of_fields eT)
 ·first|(simp;done)|(rcases hpl with rfl|⟨_,_,_,_,_,_,_,rfl⟩ <;> simp)
theorem bs_0{o:Obj}{us:Array Value}(hfr:A.frames=some (env::outer))(hl:s.heap.FunFrames base (env::outer))(hf:env.frame=some L)
  (he:s.heap.get? a=some o) (hc:o.cls=.ref C) (hx:o.dict=dx) (hd:o.data=.fields us) (h1:us[1]? =some .none) (c2:us[2]? =some .none)
  (h:∀h' T,s.heap.objs.size<=T->KeepX [a] (frs (env::outer)) s.heap h'->Tr h' a C dx (rawInt L) T->Q () {s with heap:=h'}):wpAny M A (noteFrame (.ref a) env) Q E s:=by
 unfold noteFrame;simp only [hf];refine wpAny_bind (wpAny_field he hd h1 ?_);rw [if_neg (by decide)];exact bx_4 hfr hl hf he hc hx hd (Array.getElem?_eq_some_iff.mp h1).1 c2 h
theorem ay_9{T0:Addr}(hfr:A.frames=some (env::outer))(hl:s.heap.FunFrames base (env::outer))(hf:env.frame=some L)(t:Tr s.heap a C dx .none T0)
  (h:∀h' T,s.heap.objs.size<=T->KeepX [a,T0] (frs (env::outer)) s.heap h'->Tr h' a C dx (rawInt L) T->Q () {s with heap:=h'}):wpAny M A (noteFrame (.ref a) env) Q E s:=by
 obtain⟨⟨o,us,he,hc,hx,hd,h1,c2⟩,ne,⟨oT,ws,hT,hdT,h3⟩⟩:=t;unfold noteFrame;simp only [hf];refine wpAny_bind (wpAny_field he hd h1 ?_);rw [if_pos (show(Value.ref T0 != Value.none)=true from by simp)];refine wpAny_bind (wpAny_field hT hdT h3 ?_);rw [if_neg (show¬((Value.none ==rawInt L)=true) from by simp [rawInt])];refine wpAny_bind (wpAny_setField hT hdT (Array.getElem?_eq_some_iff.mp h3).1 ?_);have oth:∀b,b≠T0->(s.heap.update T0 (Obj.mapFields (·.setIfInBounds 3 Value.none))).get? b=s.heap.get? b:=λb hb=>Heap.get?_update_other _ _ (Ne.symm hb);have fj:∀b u,s.heap.get? b=some u->(∀zs,u.data≠ .fields zs)->b≠T0:=λb u hb hn q=>by
  subst q;rw [hT] at hb;cases hb;exact hn ws hdT
 refine bx_4 (s:={s with heap:=s.heap.update T0 (Obj.mapFields (·.setIfInBounds 3 Value.none))}) hfr (hl.of_keeps λb u hb hn=>⟨u,(oth b (fj b u hb hn)).trans hb,rfl⟩) hf ((oth a (Ne.symm ne)).trans he) hc hx hd (Array.getElem?_eq_some_iff.mp h1).1 c2 λh' T n k tr=>h h' T ?_ ?_ tr
 ·have zz:(s.heap.update T0 (Obj.mapFields (·.setIfInBounds 3 Value.none))).objs.size=s.heap.objs.size:=Heap.size_update _ _ _;rw [<-zz];exact n
 ·have na:∀b,b∉ [a,T0]->b∉ [a]:=λb nb z=>nb (by rw [List.mem_singleton.mp z];exact List.mem_cons_self);have nT:∀b,b∉ [a,T0]->b≠T0:=λb nb z=>nb (by rw [z];simp);exact⟨λb u nb m e=>k.same b u (na b nb) m ((oth b (nT b nb)).trans e),λb u nb e=>k.slot b u (na b nb) ((oth b (nT b nb)).trans e)⟩
theorem s_3{T:Addr}{fl:Value}(t:Tr s.heap a C dx fl T)(h:∀h',(∀b o,b∉ [T]->s.heap.get? b=some o->h'.get? b=some o)->Tr h' a C dx .none T->Q () {s with heap:=h'}):wpAny M A (setFlight (.ref a) none) Q E s:=by
 obtain⟨⟨o,us,he,hc,hx,hd,h1,c2⟩,ne,⟨oT,ws,hT,hdT,h3⟩⟩:=t;have sz3:3 < ws.size:=(Array.getElem?_eq_some_iff.mp h3).1;unfold setFlight;refine wpAny_bind (wpAny_field he hd h1 ?_);rw [if_pos (show(Value.ref T != Value.none)=true from by simp)];refine wpAny_setField hT hdT sz3 (h _ (λb u n e=> ?_) ⟨⟨o,us, ?_,hc,hx,hd,h1,c2⟩,ne,⟨_,_,Heap.get?_update_self _ hT (Obj.isFreed_of_fields (Obj.data_mapFields hdT _)),Obj.data_mapFields hdT _, ?_⟩⟩)
 ·rw [Heap.get?_update_other _ _ (λz=>n (by simp [z]))];exact e
 ·rw [Heap.get?_update_other _ _ ne];exact he
 ·simp [sz3]
end
def CXr(P:Program)(w:World):CXT:=λouter H s E e s'=>∃a C dx T H',e=.ref a/\s'.os=s.os/\AllBare s'.gens/\Un (frs outer) [] H H' s.heap s'.heap/\HOk P w H' s'.heap/\
 Tr s'.heap a C dx .none T/\H' a=none/\H' T=none/\s.heap.objs.size<=a/\s.heap.objs.size<=T/\E (.ref C) dx H'
section
variable{X:Cx}{zd:List (Addr×Obj)}{σ:Sg}{H H':Hp}{s s':Shared}
theorem Inv.settle{ch:List Addr}{h2:Heap}(I:Inv X zd σ H s)(I':Inv X zd σ H' s')(n:∀b∈ch,s.heap.objs.size<=b/\H' b=none)(k:KeepX ch (frs X.stack) s'.heap h2):Inv X zd σ H' {s' with heap:=h2}:=by
 have trk:∀b u,H' b=some u->b∉ch/\b∉frs X.stack:=λb u e=>⟨λz=>(by rw [(n b z).2] at e;cases e),λz=>(by rw [I'.stkFree b z] at e;cases e)⟩;refine I'.step (g':=s'.gens) (d':=s'.drawn) (t':=s'.toks) (ch:=ch) (λb hb=> ?_) (λb o h1 h2 h3 e _=>k.same b o h3 (λz=> ?_) e) (λb o _ _ h3 e _=>k.slot b o h3 e) (λ_ _ _ _ z=>z) (λb o h3 e=> ?_) (λ_ _ z=>z) (λ_ _ _ z=>z) (λb ps z=>⟨#[],by rw [z];simp⟩) (λm hm=> ?_) (λb u e=> ?_) I'.bare
 ·have lb:=(n b hb).1;refine⟨.inr (Nat.le_trans I.sz lb),λz=> ?_,λx c e z=> ?_,λp hp z=> ?_⟩
  ·exact absurd (Nat.lt_of_lt_of_le I.lt lb) (by rw [z];exact Nat.lt_irrefl _)
  ·obtain⟨v,hv⟩:=I.cell x c e;exact absurd (Nat.lt_of_lt_of_le hv.lt lb) (by rw [z];exact Nat.lt_irrefl _)
  ·exact absurd (Nat.lt_of_lt_of_le (Heap.lt_size (I.pin p hp).1) lb) (by rw [z];exact Nat.lt_irrefl _)
 ·rcases List.mem_cons.mp (I'.stkSub b z) with z|z
  ·exact h1 z
  ·exact h2 z
 ·obtain⟨sl,q⟩:=k.slot b o h3 e;exact⟨_,q⟩
 ·obtain⟨o,es,ep,ho,r⟩:=hm;have nl:X.env.locals∉ch:=λz=>absurd (Nat.lt_of_lt_of_le I.lt (n _ z).1) (Nat.lt_irrefl _);obtain⟨sl,q⟩:=k.slot _ o nl ho;exact⟨_,es,ep,q,r⟩
 ·refine(I'.hok b u e).stay (λc v hc q=> ?_) (λ_ z=>z) λ_ _ z=>z;rcases hc with rfl|hc
  ·exact k.same c v (trk c u e).1 (trk c u e).2 q
  ·exact k.same c v (trk c _ hc).1 (trk c _ hc).2 q
theorem Inv.raised{E:XK}{e:Value}(I:Inv X zd σ H s)(c:CXr X.prog X.w X.stack H s E e s'):∃a C dx T H',e=.ref a/\Inv X zd σ H' s'/\Tr s'.heap a C dx .none T/\H' a=none/\H' T=none/\s.heap.objs.size<=a/\s.heap.objs.size<=T/\E (.ref C) dx H':=by
 obtain⟨a,C,dx,T,H',e1,os,br,un,hok,tr,n1,n2,z1,z2,q⟩:=c;exact⟨a,C,dx,T,H',e1,I.call' (ch:=[]) os un hok br (λb z=>absurd z (by simp)),tr,n1,n2,z1,z2,q⟩
end
section
variable{cm:Bool}{P:Program}{w:World}{K:Frag}{mg:Str->Option Value}{base:Heap}{N:List Str}{qual:Str}{scope:Scope}{f:Addr}{cd:Value}{A:Around}{outer:List Env}{s0:Shared}{H0:Hp}{E E':XK}
theorem ce_6{zd:List (Addr×Obj)}{σ:Sg}{s s':Shared}{e:Value}(I:Inv ({Et (CXr P w) P w K mg base N qual scope f cd A outer s0 H0 E with calm:=cm}:Cx) zd σ H s)
  (c:CXr P w ({Et (CXr P w) P w K mg base N qual scope f cd A outer s0 H0 E with calm:=cm}:Cx).stack H s E' e s') (i:∀cls dx H',E' cls dx H'->E cls dx H'):({Et (CXr P w) P w K mg base N qual scope f cd A outer s0 H0 E with calm:=cm}:Cx).xe e s':=by
 obtain⟨a,C,dx,T,H',rfl,I',tr,n1,n2,z1,z2,q⟩:=Inv.raised I c;show wpAny (model P w) _ (leaving _ _) _ _ s';unfold leaving;refine wpAny_bind (ay_9 I'.ok.frames I'.stack rfl tr λh1 T2 z3 k1 t1=> ?_);refine s_3 t1 λh2 k2 t2=> ?_;have zT2:H' T2=none:=I'.hok.fresh z3;have J:Inv ({Et (CXr P w) P w K mg base N qual scope f cd A outer s0 H0 E with calm:=cm}:Cx) zd σ H' {s' with heap:=h2}:=by
  refine Inv.settle (ch:=[a,T] ++ [T2]) I I' (λb hb=> ?_) (k1.trans (KeepX.of_same k2));have:b=a\/b=T\/b=T2:=by simpa using hb
  rcases this with rfl|rfl|rfl
  ·exact⟨z1,n1⟩
  ·exact⟨z2,n2⟩
  ·exact⟨Nat.le_trans (Nat.le_trans (Nat.le_refl _) z1) (Nat.le_trans (Nat.le_of_lt (Heap.lt_size tr.ob.choose_spec.choose_spec.1)) z3),zT2⟩
 exact⟨a,C,dx,T2,H',rfl,J.os,J.bare,J.base,J.hok,t2,n1,zT2,Nat.le_trans I.sz z1,Nat.le_trans I'.sz z3,i _ _ _ q⟩
theorem bd_5{zd:List (Addr×Obj)}{σ:Sg}{H H':Hp}{s s':Shared}{a C:Addr}{dx:Option Addr}{o:Obj}{us:Array Value}(I:Inv ({Et (CXr P w) P w K mg base N qual scope f cd A outer s0 H0 E with calm:=cm}:Cx) zd σ H s)
  (I':Inv ({Et (CXr P w) P w K mg base N qual scope f cd A outer s0 H0 E with calm:=cm}:Cx) zd σ H' s') (he:s'.heap.get? a=some o) (hc:o.cls=.ref C) (hx:o.dict=dx) (hd:o.data=.fields us) (h1:us[1]? =some .none) (c2:us[2]? =some .none) (n1:H' a=none) (z1:s.heap.objs.size<=a) (q:E (.ref C) dx H'):
  ({Et (CXr P w) P w K mg base N qual scope f cd A outer s0 H0 E with calm:=cm}:Cx).xe (.ref a) s':=by
 show wpAny (model P w) _ (leaving _ _) _ _ s';unfold leaving;refine wpAny_bind (bs_0 I'.ok.frames I'.stack rfl he hc hx hd h1 c2 λh1 T2 z3 k1 t1=> ?_);refine s_3 t1 λh2 k2 t2=> ?_;have zT2:H' T2=none:=I'.hok.fresh z3;have J:Inv ({Et (CXr P w) P w K mg base N qual scope f cd A outer s0 H0 E with calm:=cm}:Cx) zd σ H' {s' with heap:=h2}:=by
  refine Inv.settle (ch:=[a] ++ [T2]) I I' (λb hb=> ?_) (k1.trans (KeepX.of_same k2));have:b=a\/b=T2:=by simpa using hb
  rcases this with rfl|rfl
  ·exact⟨z1,n1⟩
  ·exact⟨Nat.le_trans z1 (Nat.le_trans (Nat.le_of_lt (Heap.lt_size he)) z3),zT2⟩
 exact⟨a,C,dx,T2,H',rfl,J.os,J.bare,J.base,J.hok,t2,n1,zT2,Nat.le_trans I.sz z1,Nat.le_trans I'.sz z3,q⟩
end
section
variable{prog:Program}{w:World}{A:Around}{E:Value->Shared->Prop}{h:Heap}{g:Array GenState}{d:Drawn}{t:Nat}{os:OsState}
variable{nm q:Str}{C N:Addr}{bs bm bmB:List Value}{bc:Bool}{sn:List Str}{sub:List Value}{ab:Bool}{col:Option Bool}{dd:Option Addr}{k0 k1 k2 k3 k5:Option Value}{B newId ak:String}
theorem ce_7(FB:ExcBaseFacts B newId ak bmB)(T:OwnTail h bmB bm){mN:Str->Option Value}{fI:Addr}{oI:Obj}{Q:PySem.Fin->Shared->Prop}
  (hC:h.get? C=some (excClassObj nm q C N bs bm bc sn sub ab col dd k0 k1 k2 k3 k5 newId)) (hn:h.Ns N mN) (hi:mN "__init__" =some (.ref fI)) (ho:h.get? fI=some oI) (hf:oI.cls=.type "function")
  (z:∀h' e,Heap.MadeExcOf h h' e (.ref C) us->h.objs.size<=e->wpAny (model prog w) A (call (.ref fI) (.ref e::us)) (λr s'=>r=.none/\Q (.done (.ret (.ref e))) s') E ⟨h',g,d,t,os⟩) (hu:us.length<=sizeLine):
  wpAny (model prog w) A (Builtin.«type.__call__» ⟨.ref C::us,[]⟩) Q E ⟨h,g,d,t,os⟩:=by
 wp_walk using wpAny_loadPart_at hC,wpAny_madeBy_exc hC
 refine codeAny_call_builtin_code (Code.quiet_builtin _ FB.quiet) (wpAny_check_new_subT FB T hC ?_);refine codeAny_exc_new_subT FB T hC ?_ hu;show wpAny _ _ _ _ _ _;generalize e1:({cls:=.type "tuple",data:=.seq us.toArray}:Obj)=o1;generalize e2:({cls:=.ref C,data:=.fields #[.ref h.objs.size,.none,.none,.none,.bool false,.none]}:Obj)=o2;have up:∀b o,h.get? b=some o->((h.push o1).push o2).get? b=some o:=λb o e=>Heap.get?_push_of_some _ (Heap.get?_push_of_some _ e);have ge:((h.push o1).push o2).get? (h.objs.size + 1)=some o2:=by
  have:=Heap.get?_push_size (h.push o1) (o:=o2) (by rw [<-e2];rfl)
  rwa [Heap.size_push] at this
 have gt:((h.push o1).push o2).get? h.objs.size=some o1:=Heap.get?_push_of_some _ (Heap.get?_push_size h (by rw [<-e1];rfl));have hC1:=up _ _ hC;have hn1:((h.push o1).push o2).Ns N mN:=hn.keeps up;have cl:o2.cls=.ref C:=by rw [<-e2]
 have hcC:List.contains (Value.ref C::bm) (.ref C)=true:=List.contains_iff_mem.mpr (.head _);unfold isInstance
 repeat (first|(with_reducible refine wpAny_loadPart_at ge ?_;rw [cl])|(with_reducible refine wpAny_isSubtype_exc hC1 ?_;rw [hcC])|wp_step)
 change wpAny _ _ (mroOf (.ref C) >>=λl=>lookupAlong l _) _ _ _;refine wpAny_bind (wpAny_mroOf_exc hC1 ?_);rw [lookupAlong_cons];refine wpAny_bind (wpAny_classOwn_exc hC1 hn1 ?_);rw [hi];refine wpAny_pure (wpAny_holding (wpAny_bind ?_));unfold bindSpecial;refine wpAny_bind (wpAny_typeOf (T:= "function") ⟨_,up _ _ ho,hf⟩ ?_);rw [if_pos (by decide)];refine wpAny_pure (wpAny_bind (wpAny_mono (z _ (h.objs.size + 1) ⟨up,Heap.get?_none_of_le (Nat.le_succ _),h.objs.size,by rw [e2];exact ge,Heap.get?_none_of_le (Nat.le_refl _),by rw [e1];exact gt⟩ (Nat.le_succ _)) (λr s' hr=> ?_) λ_ _ x=>x));obtain⟨rfl,hQ⟩:=hr
 wp_walk
 exact hQ
theorem cl_1(FB:ExcBaseFacts B newId ak bmB)(T:OwnTail h bmB bm){mN:Str->Option Value}{fI:Addr}{oI:Obj}{Q:Value->Shared->Prop}
  (hC:h.get? C=some (excClassObj nm q C N bs bm bc sn sub ab col dd k0 k1 k2 k3 k5 newId)) (hn:h.Ns N mN) (hi:mN "__init__" =some (.ref fI)) (ho:h.get? fI=some oI) (hf:oI.cls=.type "function")
  (z:∀h' e,Heap.MadeExcOf h h' e (.ref C) us->h.objs.size<=e->wpAny (model prog w) (A.under (.builtin "type.__call__" ⟨.ref C::us,[]⟩)) (call (.ref fI) (.ref e::us)) (λr s'=>r=.none/\Q (.ref e) s') E ⟨h',g,d,t,os⟩) (hu:us.length<=sizeLine):
  wpAny (model prog w) A (call (.ref C) us) Q E ⟨h,g,d,t,os⟩:=by
 have f1:=tc_lookup;have f2:=tc_bind (.ref C);have Cq:Shared.TypeIs ⟨h,g,d,t,os⟩ (.ref C) "type" :=⟨_,hC,rfl⟩;refine wpAny_call (codeAny_of_tree (?_:wpAny _ _ (callAny (.ref C) _) _ _ _))
 wp_walk using wpAny_loadPart_at hC
 refine⟨rfl, ?_⟩;exact codeAny_call_builtin_at (Code.quiet_builtin _ (by decide +kernel)) entry_typeCall (wpAny_check_type_call_sub hC (ce_7 FB T hC hn hi ho hf (λh' e hm hz=>z h' e hm hz) hu))
theorem az_0{M:Model}{env:Env}{s:Shared}{x:Sem Value}{Q:Flow->Shared->Prop}(hb:bm.contains (.type "BaseException")=true)(hh:A.handled=none)
  (z:wpAny M A x (λv s1=>∃e t dx,v=.ref e/\s1.heap.get? C=some (excClassObj nm q C N bs bm bc sn sub ab col dd k0 k1 k2 k3 k5 newId)/\
   s1.heap.get? e=some {cls:=.ref C,dict:=dx,data:=.fields #[.ref t,.none,.none,.none,.bool false,.none]}/\E (.ref e) s1) E s):wpAny M A (raiseStmt env (some x) none) Q E s:=by
 have hcB:(Value.ref C::bm).contains (.type "BaseException")=true:=by rw [List.contains_cons,hb,Bool.or_true]
 unfold raiseStmt;refine wpAny_bind (wpAny_mono z (λv s1 z1=> ?_) λ_ _ y=>y);obtain⟨e,t,dx,rfl,hC,he,hE⟩:=z1;obtain⟨hp,g,d,tk,os⟩:=s1
 repeat (first|with_reducible refine wpAny_loadPart_at he ?_|with_reducible refine wpAny_loadPart_at hC ?_|(with_reducible refine wpAny_isSubtype_exc hC ?_;rw [hcB])|wp_step)
 exact wpAny_raiseNew_none hh hE
end
section
variable{X:Cx}{EX:Ay}{a b c:Expr}{f g h:FE}{pos:Pos}
def Aa(i:Nat):FE:=λ δ=>match δ[i]? with
 |some (some d)=> .ok (.sh d)
 |_=> .no
def eC(d:D):FE:=λ_=> .ok (.sh d)
theorem Ad(i:Nat){x:Str}(hN:X.N[i]? =some x:=by rfl)(hv:Fu X.env.scope x:=by first|exact Or.inl rfl|exact Or.inr (Or.inl rfl)|exact Or.inr (Or.inr rfl))(hd:(x ==("__debug__" :Str))=false:=by decide)
  (hcd:(x ==("__classdict__" :Str))=false:=by decide):ED X EX (.Name x pos) (Aa i):=
 PE.imp (Ft hN hv hd hcd) λ σ H Q ⟨G,δ,g,s,o⟩=>by
  unfold Aa at o
  split at o
  ·rename_i d e;obtain⟨v,e1,r⟩:=s.get i d e;exact⟨v,e1,WP.use o g r⟩
  ·exact o.elim
theorem t_8{e:Expr}{d:D}(he:PE X e (tC v))(hd:∀G,Has X.K G v d):ED X EX e (eC d):=
 PE.imp he λ σ H Q ⟨G,δ,g,s,o⟩=>WP.use o g (hd G)
theorem Am{i:Int}{j pos}:ED X EX (.Constant (.int i) j pos) (eC (.int i)):=t_8 dg_9 λ_=> .int i
theorem aq_4{b:Bool}{j pos}:ED X EX (.Constant (.bool b) j pos) (eC (.bl b)):=t_8 do_6 λ_=> .bl b
theorem bd_6{j pos}:ED X EX (.Constant .none j pos) (eC .non):=t_8 dh_0 λ_=> .non
theorem ah_0{x:Str}{j pos}:ED X EX (.Constant (.str x) j pos) (eC (.str x)):=t_8 dh_1 λ_=> .str x
theorem v_2{x:Str}{i:Int}{t:Tok}(hg:Gl X x)(hm:X.mg x=some (.int i t))(hd:(x ==("__debug__" :Str))=false:=by decide):ED X EX (.Name x pos) (eC (.int i)):=t_8 (bw_4 (v:=.int i) hg hm ⟨t,rfl⟩ hd) λ_=> .int i
theorem bx_5{x:Str}{z:Str}{t:Tok}(hg:Gl X x)(hm:X.mg x=some (.str z t))(hd:(x ==("__debug__" :Str))=false:=by decide):ED X EX (.Name x pos) (eC (.str z)):=t_8 (bw_4 (v:=.str z) hg hm ⟨t,rfl⟩ hd) λ_=> .str z
def rD(K:Frag)(r:D->D->R W):R2:=λx y H Q=>∃(EX:EXT) (G:Hp) (a b:D),Same G H/\Has K G x a/\Has K G y b/\Out K EX G H (r a b) Q
abbrev Ea(X:Cx)(f:Value->Value->Sem Value)(r:D->D->R W):Prop:=OpR X f (rD X.K r)
def Ae(r:D->D->R W)(f g:FE):FE:=λ δ=>(f δ).bind λa=>(g δ).bind λb=>r a.d b.d
theorem two{r:D->D->R W}{σ:Sg}{Q:VK}(q:tD K EX (Ae r f g) σ H Q):tOp (rD K r) (tD K EX f) (tD K EX g) σ H Q:=by
 obtain⟨G,δ,g0,s0,o⟩:=q;exact tD.seq g0 s0 o λw v G1 H1 _ st1 r1 o1=>tD.seq st1.gh (s0.mono st1.gg) o1 λw2 v2 G2 H2 _ st2 r2 o2=>⟨_,G2,w.d,w2.d,st2.gh,r1.mono st2.gg,r2,o2⟩
theorem Ar{op:Operator}{r:D->D->R W}(ho:Ea X (binaryOp op) r)(ha:ED X EX a f)(hb:ED X EX b g):ED X EX (.BinOp a op b pos) (Ae r f g):=
 PE.imp (de_8 ho ha hb) λ_ _ _ q=>two q
theorem ah_1{op:CmpOp}{r:D->D->R W}(ho:Ea X (compareOp op) r)(ha:ED X EX a f)(hb:ED X EX b g)(hm:behindInMarks op b=false):ED X EX (.Compare a [op] [b] pos) (Ae r f g):=
 PE.imp (cv_7 ho ha hb hm) λ_ _ _ q=>two q
def Dg:D->R Bool
 | .bl b=> .ok b
 |_=> .no
def Ak(f:FE):FT:=λ δ=>(f δ).bind λw=>Dg w.d
theorem bx_6{σ:Sg}{Q:Bool->Hp->Prop}(q:tDt K EX (Ak f) σ H Q):tD K EX f σ H λx H'=>∃k,x=.bl k/\Q k H':=by
 obtain⟨G,δ,g0,s0,o⟩:=q;refine⟨G,δ,g0,s0, ?_⟩;unfold Ak at o;cases e:f δ with
 |ok w=>
  rw [e] at o;simp only [R.bind_ok] at o;refine WP.intro λv G' H' st r=> ?_;revert r o;cases w.d with
  |bl k=>intro o r;cases r;exact⟨k,rfl,o G' H' st⟩
  |_=>intro o _;exact False.elim o
 |ex x=>rw [e] at o;exact o
 |no=>rw [e] at o;exact o
theorem Dt{op:CmpOp}{r:D->D->R W}(ho:Ea X (compareOp op) r)(ha:ED X EX a f)(hb:ED X EX b g)(hm:behindInMarks op b=false):TD X EX (.Compare a [op] [b] pos) (Ak (Ae r f g)):=
 PT.imp (bw_9 ho ha hb hm) λ σ H Q q=>two (bx_6 q)
def q_5(r r':D->D->R W)(f g h:FE):FE:=λ δ=>(f δ).bind λa=>(g δ).bind λb=>(r a.d b.d).bind λz=>(Dg z.d).bind λk=>
 if k=true then(h δ).bind λc=>r' b.d c.d else .ok (.sh (.bl false))
theorem df_1{r r':D->D->R W}{σ:Sg}{Q:VK}(q:tD K EX (q_5 r r' f g h) σ H Q):br_0 (rD K r) (rD K r') (tD K EX f) (tD K EX g) (tD K EX h) σ H Q:=by
 obtain⟨G,δ,g0,s0,o⟩:=q;refine tD.seq g0 s0 o λw v G1 H1 _ st1 r1 o1=>tD.seq st1.gh (s0.mono st1.gg) o1 λw2 v2 G2 H2 _ st2 r2 o2=>⟨EX σ,G2,w.d,w2.d,st2.gh,r1.mono st2.gg,r2, ?_⟩;revert o2;cases r w.d w2.d with
 |ok z=>
  intro o2;refine WP.intro λv3 G3 H3 st3 r3=> ?_;have o2:Out K (EX σ) G2 H2 ((Dg z.d).bind λk=>if k=true then(h δ).bind λc=>r' w2.d c.d else .ok (.sh (.bl false))) Q:=o2;revert r3 o2;cases z.d with
  |bl k=>
   intro r3 o2;cases r3;refine⟨k,rfl, ?_⟩;cases k with
   |true=>
    rw [if_pos rfl];have o3:Out K (EX σ) G2 H2 ((h δ).bind λc=>r' w2.d c.d) Q:=o2;exact tD.seq st3.gh (s0.mono (st1.gg.trans (st2.gg.trans st3.gg))) (o3.mono st3) λw4 v4 G4 H4 _ st4 r4 o4=>⟨_,G4,w2.d,w4.d,st4.gh,r2.mono (st3.gg.trans st4.gg),r4,o4⟩
   |false=>
    rw [if_neg Bool.false_ne_true];have o3:WP K G2 H2 (.sh (.bl false)) Q:=o2;exact(o3.mono st3).use st3.gh (.bl false)
  |_=>intro _ o2;exact False.elim o2
 |ex x=>exact λo2=>o2
 |no=>exact λo2=>o2
theorem bi_7{op op':CmpOp}{r r':D->D->R W}(ho:Ea X (compareOp op) r)(ho':Ea X (compareOp op') r')(ha:ED X EX a f)(hb:ED X EX b g)(hc:ED X EX c h)
  (hm:lastMarks [op,op'] [b,c]=false:=by with_unfolding_all rfl):ED X EX (.Compare a [op,op'] [b,c] pos) (q_5 r r' f g h):=
 PE.imp (cj_7 ho ho' ha hb hc hm) λ_ _ _ q=>df_1 q
theorem cl_2{op op':CmpOp}{r r':D->D->R W}(ho:Ea X (compareOp op) r)(ho':Ea X (compareOp op') r')(ha:ED X EX a f)(hb:ED X EX b g)(hc:ED X EX c h)
  (hm:lastMarks [op,op'] [b,c]=false:=by with_unfolding_all rfl):TD X EX (.Compare a [op,op'] [b,c] pos) (Ak (q_5 r r' f g h)):=
 PT.imp (cj_8 ho ho' ha hb hc hm) λ_ _ _ q=>df_1 (bx_6 q)
abbrev TW(X:Cx)(EX:Ay)(e:Expr)(f:FT):Prop:=PW X e (tDt X.K EX f)
variable{p q:FT}{w_9:List Expr}
def Cp(p q:FT):FT:=λ δ=>(p δ).bind λb=>if b=true then q δ else .ok false
def Fj(p q:FT):FT:=λ δ=>(p δ).bind λb=>if b=true then .ok true else q δ
def Bm(p:FT):FT:=λ δ=>(p δ).bind λb=> .ok (!b)
theorem bd_7(ha:TD X EX a p):TW X EX (.BoolOp .And [a] pos) p:=cv_3 ha
theorem bd_8(ha:TD X EX a p):TW X EX (.BoolOp .Or [a] pos) p:=dh_2 ha
theorem tDt.two{σ:Sg}{Q:Bool->Hp->Prop}{k:Bool->DE->R Bool}{P:Bool->Hp->Prop}(h:tDt K EX (λ δ=>(p δ).bind λb=>k b δ) σ H Q)
  (i:∀b H',tDt K EX (k b) σ H' Q->P b H'):tDt K EX p σ H P:=by
 obtain⟨G,δ,g0,s0,o⟩:=h;refine⟨G,δ,g0,s0, ?_⟩;cases e:p δ with
 |ok b=>
  simp only [e,R.bind_ok] at o;refine λG' H' st=>i b H' ⟨G',δ,st.gh,s0.mono st.gg, ?_⟩;cases e2:k b δ with
  |ok c=>rw [e2] at o;exact λG2 H2 st2=>o G2 H2 (st.trans st2)
  |ex x=>rw [e2] at o;exact(EX σ).mono _ _ _ _ _ st o
  |no=>rw [e2] at o;exact o
 |ex x=>simp only [e,R.bind_ex] at o;exact o
 |no=>simp only [e,R.bind_no] at o
theorem tDt.now{σ:Sg}{Q:Bool->Hp->Prop}{c:Bool}(h:tDt K EX (λ_=> .ok c) σ H Q):Q c H:=by
 obtain⟨G,δ,g0,s0,o⟩:=h;exact o G H (Step.refl g0)
theorem bs_1(ha:TD X EX a p)(hb:TW X EX (.BoolOp .And (b::w_9) pos) q):TW X EX (.BoolOp .And (a::b::w_9) pos) (Cp p q):=
 PW.imp (dh_3 ha hb) λ σ H Q h=>tDt.two (k:=λb δ=>if b=true then q δ else .ok false) h λb H' h'=>by
  cases b with
  |true=>rw [if_pos rfl];exact h'
  |false=>rw [if_neg Bool.false_ne_true];exact tDt.now h'
theorem bi_8(ha:TD X EX a p)(hb:TW X EX (.BoolOp .Or (b::w_9) pos) q):TW X EX (.BoolOp .Or (a::b::w_9) pos) (Fj p q):=
 PW.imp (do_7 ha hb) λ σ H Q h=>tDt.two (k:=λb δ=>if b=true then .ok true else q δ) h λb H' h'=>by
  cases b with
  |true=>rw [if_pos rfl];exact tDt.now h'
  |false=>rw [if_neg Bool.false_ne_true];exact h'
theorem td_w{e:Expr}(h:TW X EX e p):TD X EX e p:=h.pt
theorem t_2(ha:TD X EX a p):TD X EX (.UnaryOp .Not a pos) (Bm p):=
 PT.imp (dh_4 ha) λ σ H Q h=>tDt.two (k:=λb _=> .ok (!b)) h λb H' h'=>tDt.now h'
def eAnd(f g:FE):FE:=λ δ=>(f δ).bind λa=>(Dg a.d).bind λk=>if k=true then g δ else .ok (.sh (.bl false))
def eOr(f g:FE):FE:=λ δ=>(f δ).bind λa=>(Dg a.d).bind λk=>if k=true then .ok (.sh (.bl true)) else g δ
def eNot(f:FE):FE:=λ δ=>(f δ).bind λa=>(Dg a.d).bind λk=> .ok (.sh (.bl (!k)))
theorem ah_2{op}(h:ED X EX a f):ED X EX (.BoolOp op [a] pos) f:=dh_5 h
theorem tD.boolThen{σ:Sg}{Q:VK}{k:Bool->DE->R W}{P:Bool->Hp->Prop}(h:tD K EX (λ δ=>(f δ).bind λa=>(Dg a.d).bind λc=>k c δ) σ H Q)
  (i:∀c H',tD K EX (k c) σ H' Q->P c H'):tD K EX f σ H λx H'=>∃c,x=.bl c/\P c H':=by
 obtain⟨G,δ,g0,s0,o⟩:=h;refine tD.seq g0 s0 o λw v G1 H1 _ st1 r1 o1=> ?_;revert r1 o1;cases w.d with
 |bl c=>intro r1 o1;cases r1;exact⟨c,rfl,i c H1 ⟨G1,δ,st1.gh,s0.mono st1.gg,o1⟩⟩
 |_=>intro _ o1;exact False.elim o1
theorem tD.now{σ:Sg}{Q:VK}{d:D}(h:tD K EX (λ_=> .ok (.sh d)) σ H Q)(r:∀G,Has K G v d):Q v H:=by
 obtain⟨G,δ,g0,s0,o⟩:=h;exact WP.use o g0 (r G)
theorem ah_3(ha:ED X EX a f)(hb:ED X EX (.BoolOp .And (b::w_9) pos) g):ED X EX (.BoolOp .And (a::b::w_9) pos) (eAnd f g):=
 PE.imp (dh_6 ha hb) λ σ H Q h=>tD.boolThen (k:=λk δ=>if k=true then g δ else .ok (.sh (.bl false))) h λc H' h'=>by
  cases c with
  |true=>rw [if_pos rfl];exact h'
  |false=>rw [if_neg Bool.false_ne_true];exact tD.now h' λ_=> .bl false
theorem cl_3(ha:ED X EX a f):ED X EX (.UnaryOp .Not a pos) (eNot f):=
 PE.imp (dh_7 ha) λ σ H Q h=>tD.boolThen (k:=λk _=> .ok (.sh (.bl (!k)))) h λc H' h'=>tD.now h' λ_=> .bl (!c)
def eIf(p:FT)(f g:FE):FE:=λ δ=>(p δ).bind λk=>if k=true then f δ else g δ
theorem cl_4(hc:TD X EX c p)(ha:ED X EX a f)(hb:ED X EX b g):ED X EX (.IfExp c a b pos) (eIf p f g):=
 PE.imp (cj_1 hc ha hb) λ σ H Q ⟨G,δ,g0,s0,o⟩=>tDt.seq g0 s0 o λk G' H' _ st o'=>by
  cases k with
  |true=>rw [if_pos rfl];exact⟨G',δ,st.gh,s0.mono st.gg,o'⟩
  |false=>rw [if_neg Bool.false_ne_true];exact⟨G',δ,st.gh,s0.mono st.gg,o'⟩
def Bz:D->R Bool
 | .non=> .ok false
 | .bl b=> .ok b
 | .int i=> .ok (i != 0)
 | .str x=>if x.length<=16777216 then .ok ((x.length:Int) != 0) else .no
 | .lst ds=> .ok (!ds.isEmpty)
 | .tup ds=> .ok (!ds.isEmpty)
 |_=> .no
def Ax(f:FE):FT:=λ δ=>(f δ).bind λw=>Bz w.d
theorem bi_9{G:Hp}{vs:List V}{ds:List D}(r:HasL K G vs ds):(!ds.isEmpty)= !vs.isEmpty:=by cases r <;> rfl
theorem dj_7{G H:Hp}{d:D}{k:Bool}(g:Same G H)(r:Has K G v d)(e:Bz d=.ok k):TruV K v H k:=by
 cases r with
 |non=>cases e;rfl
 |bl b=>cases e;rfl
 |int i=>cases e;rfl
 |str x=>
  have e:(if x.length<=16777216 then R.ok ((x.length:Int) != 0) else .no)=.ok k:=e
  split at e
  ·rename_i hz;cases e;exact⟨by rw [sizeLine_eq];exact hz,rfl⟩
  ·cases e
 |lst h r=>cases e;exact .inl ⟨_,g.seq h,bi_9 r⟩
 |tup h r=>cases e;exact .inr (.inl ⟨_,Same.tupS g h,bi_9 r⟩)
 |exn0 _ _=>cases e
 |exn1 _ _ _ _ _=>cases e
 |dic _ _ _=>cases e
 |obj _ _ _ _=>cases e
theorem g_5(ha:ED X EX a f)(he:∀whole,isTrue a X.env whole=(do let v<-whole;standAt a.pos;holding [v] (truthy v)):=by intro _;rfl):TD X EX a (Ax f):=
 PT.imp (cj_9 ha he) λ σ H Q ⟨G,δ,g0,s0,o⟩=>by
  refine⟨G,δ,g0,s0, ?_⟩;unfold Ax at o;cases e:f δ with
  |ok w=>
   rw [e] at o;simp only [R.bind_ok] at o;refine WP.intro λv G' H' st r=> ?_;cases e2:Bz w.d with
   |ok k=>rw [e2] at o;exact⟨k,dj_7 st.gh r e2,o G' H' st⟩
   |ex x=>rw [e2] at o;exfalso;revert e2;cases w.d <;> simp only [Bz] <;> intro e2 <;> first|cases e2|(split at e2 <;> cases e2)
   |no=>rw [e2] at o;exact o.elim
  |ex x=>rw [e] at o;exact o
  |no=>rw [e] at o;exact o
variable{e:Expr}{es:List Expr}{fa:FA}
def Ac:FA:=λ_=> .ok []
def Ab(f:FE)(fa:FA):FA:=λ δ=>(f δ).bind λw=>(fa δ).bind λds=> .ok (w.d::ds)
theorem Au:AD X EX [] Ac:=PA.imp o_9 λ σ H Q ⟨G,δ,g0,s0,o⟩=>o [] G H (Step.refl g0) .nil
theorem Aj(ha:ED X EX e f)(hr:AD X EX es fa)(hs:starEach (e::es) X.env=(false,eval e X.env)::starEach es X.env:=by rfl):AD X EX (e::es) (Ab f fa):=
 PA.imp (i_7 ha hr hs) λ σ H Q ⟨G,δ,g0,s0,o⟩=>by
  refine⟨G,δ,g0,s0, ?_⟩;unfold Ab at o;cases e1:f δ with
  |ok w=>
   rw [e1] at o;simp only [R.bind_ok] at o;refine WP.intro λv G' H' st r=>⟨G',δ,st.gh,s0.mono st.gg, ?_⟩;cases e2:fa δ with
   |ok ds=>rw [e2] at o;exact λvs G2 H2 st2 r2=>o (v::vs) G2 H2 (st.trans st2) (.cons (r.mono st2.gg) r2)
   |ex x=>rw [e2] at o;exact(EX σ).mono _ _ _ _ _ st o
   |no=>rw [e2] at o;exact o
  |ex x=>rw [e1] at o;exact o
  |no=>rw [e1] at o;exact o
def Cg(fa:FA):FE:=λ δ=>(fa δ).bind λds=>if ds.length<=16777216 then .ok (.sh (.tup ds)) else .no
def Dq(fa:FA):FE:=λ δ=>(fa δ).bind λds=>if ds.length<=16777216 then .ok (.ow (.lst ds)) else .no
theorem p_0{x1}(ha:AD X EX es fa):ED X EX (.Tuple es x1 pos) (Cg fa):=
 PE.imp (di_8 ha) λ σ H Q ⟨G,δ,g0,s0,o⟩=>tDa.seq g0 s0 o λds vs G' H' _ st r o'=>by
  split at o'
  ·rename_i hz;refine⟨by rw [r.length,sizeLine_eq];exact hz,λp hp=>o' (.ref p) _ _ (Step.new st.gh hp _) (.tup (SqT.of Ba) (r.mono (g_4 (st.gh.free hp) _)))⟩
  ·exact o'.elim
theorem v_3(ha:AD X EX es fa):ED X EX (.List es pos) (Dq fa):=
 PE.imp (bd_0 ha) λ σ H Q ⟨G,δ,g0,s0,o⟩=>tDa.seq g0 s0 o λds vs G' H' _ st r o'=>by
  split at o'
  ·rename_i hz;refine⟨by rw [r.length,sizeLine_eq];exact hz,λp hp=>v_1 o' st.gh r p hp⟩
  ·exact o'.elim
def rDc(K:Frag)(fn:List D->R W):List V->Hp->VK->Prop:=λvs H Q=>∃(EX:EXT) (G:Hp) (ds:List D),Same G H/\HasL K G vs ds/\Out K EX G H (fn ds) Q
abbrev x_0(X:Cx)(v:Value)(fn:List D->R W):Prop:=CallR X v (rDc X.K fn)
def Aq(fn:List D->R W)(fa:FA):FE:=λ δ=>(fa δ).bind fn
theorem bx_7{fn:List D->R W}{σ:Sg}{Q:VK}(q:tD K EX (Aq fn fa) σ H Q):tCB (rDc K fn) (tDa K EX fa) σ H Q:=by
 obtain⟨G,δ,g0,s0,o⟩:=q;exact tDa.seq g0 s0 o λds vs G' H' _ st r o'=>⟨_,G',ds,st.gh,r,o'⟩
variable{x:Str}{pp:Pos}{id T:String}{fn:List D->R W}
theorem Fp(hc:x_0 X (.builtin id) fn)(hg:Gl X x)(hm:X.mg x=none)(hv:bootBuiltins x=some (.builtin id))(ha:AD X EX (e::es) fa)(hn:x≠ "__name__" :=by decide)(hdb:(x ==("__debug__" :Str))=false:=by decide)
  (he:starEach (e::es) X.env=(false,eval e X.env)::starEach es X.env:=by rfl) (hpl:(backTo pos (starEach es X.env)).any (·.1)=false:=by rfl):ED X EX (.Call (.Name x pp) (e::es) [] pos) (Aq fn fa):=
 PE.imp (bi_6 hc hg hm hv ha hn hdb he hpl) λ_ _ _ q=>bx_7 q
theorem z_7(hc:x_0 X (.type T) fn)(hg:Gl X x)(hm:X.mg x=none)(hv:bootBuiltins x=some (.type T))(ha:AD X EX (e::es) fa)(hn:x≠ "__name__" :=by decide)(hdb:(x ==("__debug__" :Str))=false:=by decide)
  (he:starEach (e::es) X.env=(false,eval e X.env)::starEach es X.env:=by rfl) (hpl:(backTo pos (starEach es X.env)).any (·.1)=false:=by rfl):ED X EX (.Call (.Name x pp) (e::es) [] pos) (Aq fn fa):=
 PE.imp (ce_2 hc hg hm hv ha hn hdb he hpl) λ_ _ _ q=>bx_7 q
def Be:D->D->R W
 | .lst ds,.int i=>match atI ds i with|some d=> .ok (.sh d)|none=> .no
 | .tup ds,.int i=>match atI ds i with|some d=> .ok (.sh d)|none=> .no
 | .str z,.int i=>if z.length<=16777216 then(match atI z.cps.toList i with|some c=> .ok (.sh (.str ⟨#[c]⟩))|none=> .no) else .no
 |_,_=> .no
theorem HasL.atI{G:Hp}{vs:List V}{ds:List D}{i:Int}{d:D}(r:HasL K G vs ds)(h:L2.atI ds i=some d):∃v,L2.atI vs i=some v/\Has K G v d:=by
 unfold L2.atI at h⊢;rw [r.length];cases e:ixN ds.length i with
 |none=>rw [e] at h;cases h
 |some j=>rw [e] at h;exact r.get h
theorem ix_d:IxR X (rD X.K Be):=by
 intro value slice zd s σ H x y v u Q I rx ry h hs;obtain⟨EX,G,a,b,g,ra,rb,o⟩:=h;cases rb with
 |int i=>
  cases ra with
  |lst h r=>
   simp only [Be] at o
   split at o
   ·rename_i d e;obtain⟨v,e1,r1⟩:=HasL.atI r e;exact cw_3 value slice zd s σ H _ _ _ _ Q I rx ry ⟨_,_,i,v,rfl,rfl,g.seq h,e1,WP.use o g r1⟩ hs
   ·exact o.elim
  |tup h r=>
   simp only [Be] at o
   split at o
   ·rename_i d e;obtain⟨v,e1,r1⟩:=HasL.atI r e;exact di_9 value slice zd s σ H _ _ _ _ Q I rx ry ⟨_,_,i,v,rfl,rfl,Same.tupS g h,e1,WP.use o g r1⟩ hs
   ·exact o.elim
  |str z=>
   simp only [Be] at o
   split at o
   ·rename_i hz
    split at o
    ·rename_i c e;exact dj_0 value slice zd s σ H _ _ _ _ Q I rx ry ⟨z,i,c,rfl,rfl,by rw [sizeLine_eq];exact hz,e,WP.use o g (.str _)⟩ hs
    ·exact o.elim
   ·exact o.elim
  |_=>exact False.elim o
 |_=>cases ra <;> exact False.elim o
theorem Cy(ha:ED X EX a f)(hb:ED X EX b g)(hs:bx_1 b:=by intro _ _;rfl):ED X EX (.Subscript a b pos) (Ae Be f g):=
 PE.imp (dq_3 ix_d ha hb hs) λ_ _ _ q=>two q
end
end L3
namespace L2
open PySem PySem.Spec PyProof.Rows
section
variable{κ:Type} [DecidableEq κ]
def Ch(kvs:List (κ×V))(k:κ):Option V:=(kvs.find? λkv=>decide (kv.1=k)).map (·.2)
def El(kvs:List (κ×V))(k:κ)(v:V):List (κ×V):=
 if(kvs.any λkv=>decide (kv.1=k))=true then kvs.map (λkv=>if kv.1=k then(kv.1,v) else kv) else kvs ++ [(k,v)]
def o_0(kvs:List (κ×V))(k:κ):List (κ×V):=kvs.filter λkv=>decide (kv.1≠k)
theorem h_9{p:κ×V}{r:List (κ×V)}{k:κ}(e:p.1=k):Ch (p::r) k=some p.2:=by simp [Ch,List.find?_cons,e]
theorem h_1{p:κ×V}{r:List (κ×V)}{k:κ}(e:¬p.1=k):Ch (p::r) k=Ch r k:=by simp [Ch,List.find?_cons,e]
theorem x_1(k:κ):∀kvs:List (κ×V),(kvs.any λkv=>decide (kv.1=k))=(Ch kvs k).isSome
 | []=>rfl
 |p::r=>by
  rw [List.any_cons]
  by_cases e:p.1=k
  ·simp only [h_9 e,decide_eq_true e,Bool.true_or,Option.isSome_some]
  ·rw [h_1 e,decide_eq_false e,Bool.false_or];exact x_1 k r
theorem bj_0(k j:κ)(y:V):∀kvs:List (κ×V),Ch (kvs.map λkv=>if kv.1=k then(kv.1,y) else kv) j=(Ch kvs j).map λx=>if j=k then y else x
 | []=>rfl
 |p::r=>by
  have ih:=bj_0 k j y r;rw [List.map_cons]
  by_cases h:p.1=k
  ·rw [if_pos h]
   by_cases e:p.1=j
   ·rw [h_9 (p:=(p.1,y)) e,h_9 e,Option.map_some,if_pos (e.symm.trans h)]
   ·rw [h_1 (p:=(p.1,y)) e,h_1 e,ih]
  ·rw [if_neg h]
   by_cases e:p.1=j
   ·rw [h_9 (p:=p) e,h_9 e,Option.map_some,if_neg (λz=>h (e.trans z))]
   ·rw [h_1 (p:=p) e,h_1 e,ih]
theorem az_1(k j:κ)(y:V):∀kvs:List (κ×V),Ch kvs k=none->Ch (kvs ++ [(k,y)]) j=if j=k then some y else Ch kvs j
 | [],_=>by
  by_cases e:k=j
  ·rw [if_pos e.symm];exact h_9 (p:=(k,y)) e
  ·rw [if_neg (λz=>e z.symm)];exact h_1 (p:=(k,y)) e
 |p::r,hn=>by
  rw [List.cons_append];have hk:¬p.1=k:=λz=>by rw [h_9 z] at hn;cases hn
  rw [h_1 hk] at hn;have ih:=az_1 k j y r hn
  by_cases e:p.1=j
  ·rw [h_9 e,h_9 e,if_neg (λz=>hk (e.trans z))]
  ·rw [h_1 e,h_1 e,ih]
theorem cl_5(kvs:List (κ×V))(k j:κ)(y:V):Ch (El kvs k y) j=if j=k then some y else Ch kvs j:=by
 unfold El
 by_cases a:(kvs.any λkv=>decide (kv.1=k))=true
 ·rw [if_pos a,bj_0];rw [x_1] at a
  by_cases e:j=k
  ·obtain⟨x,hx⟩:=Option.isSome_iff_exists.mp a;rw [if_pos e,e,hx,Option.map_some,if_pos rfl]
  ·rw [if_neg e];cases Ch kvs j with
   |none=>rfl
   |some x=>rw [Option.map_some,if_neg e]
 ·rw [if_neg a];refine az_1 k j y kvs ?_;rw [x_1] at a;cases q:Ch kvs k with
  |none=>rfl
  |some x=>rw [q] at a;exact(a rfl).elim
theorem s_4(kvs:List (κ×V))(k:κ)(v:V):(El kvs k v).length<=kvs.length + 1:=by
 unfold El
 split
 ·rw [List.length_map];omega
 ·rw [List.length_append,List.length_cons,List.length_nil];omega
theorem RelO.isSome_eq{o:Option V}{u:Option Value}(r:RelO o u):o.isSome=u.isSome:=by
 cases o with
 |none=>cases u with
  |none=>rfl
  |some _=>exact(show False from r).elim
 |some _=>cases u with
  |none=>exact(show False from r).elim
  |some _=>rfl
theorem RelO.getD{o:Option V}{u:Option Value}{d:V}{d':Value}(r:RelO o u)(rd:RelV d d'):RelV (o.getD d) (u.getD d'):=by
 cases o with
 |none=>cases u with
  |none=>exact rd
  |some _=>exact(show False from r).elim
 |some _=>cases u with
  |none=>exact(show False from r).elim
  |some _=>exact r
theorem KV.val{kvs:List (κ×V)}{vs:List (κ×Value)}(r:KV kvs vs)(k:κ):RelO (Ch kvs k) (valueAt vs k):=by
 unfold KV at r
 induction r with
 |nil=>exact True.intro
 | @cons p q ps qs h t ih=>
  obtain⟨h1,h2⟩:=h
  by_cases e:p.1=k
  ·have e':q.1=k:=h1.symm.trans e;have b:valueAt (q::qs) k=some q.2:=by simp [valueAt,List.find?_cons,e']
   rw [h_9 e,b];exact h2
  ·have e':¬q.1=k:=λz=>e (h1.trans z);have b:valueAt (q::qs) k=valueAt qs k:=by simp [valueAt,List.find?_cons,e']
   rw [h_1 e,b];exact ih
theorem KV.any{kvs:List (κ×V)}{vs:List (κ×Value)}(r:KV kvs vs)(k:κ):(kvs.any λkv=>decide (kv.1=k))=vs.any λkv=>decide (kv.1=k):=by
 unfold KV at r
 induction r with
 |nil=>rfl
 |cons h t ih=>rw [List.any_cons,List.any_cons,ih,h.1]
theorem KV.repl{kvs:List (κ×V)}{vs:List (κ×Value)}(r:KV kvs vs)(k:κ){y:V}{u:Value}(ry:RelV y u):
  KV (kvs.map λkv=>if kv.1=k then(kv.1,y) else kv) (vs.map λkv=>if kv.1=k then(kv.1,u) else kv):=by
 unfold KV at r⊢
 induction r with
 |nil=>exact .nil
 | @cons p q ps qs h t ih=>
  rw [List.map_cons,List.map_cons];refine .cons ?_ ih;obtain⟨h1,h2⟩:=h
  by_cases e:p.1=k
  ·rw [if_pos e,if_pos (h1.symm.trans e)];exact⟨h1,ry⟩
  ·rw [if_neg e,if_neg (λz=>e (h1.trans z))];exact⟨h1,h2⟩
theorem KV.put{kvs:List (κ×V)}{vs:List (κ×Value)}(r:KV kvs vs)(k:κ){y:V}{u:Value}(ry:RelV y u):KV (El kvs k y) (stored vs k u):=by
 unfold El stored;rw [r.any k]
 by_cases e:(vs.any λkv=>decide (kv.1=k))=true
 ·rw [if_pos e,if_pos e];exact r.repl k ry
 ·rw [if_neg e,if_neg e];exact Paired.snoc r ⟨rfl,ry⟩
theorem KV.drop{kvs:List (κ×V)}{vs:List (κ×Value)}(r:KV kvs vs)(k:κ):KV (o_0 kvs k) (without vs k):=by
 unfold KV at r⊢;unfold o_0 without
 induction r with
 |nil=>exact .nil
 | @cons p q ps qs h t ih=>
  obtain⟨h1,h2⟩:=h;rw [List.filter_cons,List.filter_cons]
  by_cases e:p.1=k
  ·have a:¬decide (p.1≠k)=true:=by simp [e]
   have b:¬decide (q.1≠k)=true:=by simp [h1.symm.trans e]
   rw [if_neg a,if_neg b];exact ih
  ·have e':¬q.1=k:=λz=>e (h1.trans z);have a:decide (p.1≠k)=true:=by simp [e]
   have b:decide (q.1≠k)=true:=by simp [e']
   rw [if_pos a,if_pos b];exact .cons ⟨h1,h2⟩ ih
theorem KV.keys{kvs:List (κ×V)}{vs:List (κ×Value)}(r:KV kvs vs):kvs.map (·.1)=vs.map (·.1):=by
 unfold KV at r
 induction r with
 |nil=>rfl
 |cons h t ih=>rw [List.map_cons,List.map_cons,ih,h.1]
theorem KV.length{kvs:List (κ×V)}{vs:List (κ×Value)}(r:KV kvs vs):kvs.length=vs.length:=Paired.length r
theorem cl_6(kvs:List (κ×V))(k:κ):(o_0 kvs k).length<=kvs.length:=List.length_filter_le _ _
end
theorem ae_0{P:Program}{w:World}{k:Af}{u:Value}(r:RelV (kV k) u):(Di P w).is k u=true:=by
 cases k with
 |inl i=>obtain⟨t,e⟩:=(show∃t,u=Value.int i t from r);subst e;exact bi_2 P w i t
 |inr x=>obtain⟨t,e⟩:=(show∃t,u=Value.str x t from r);subst e;exact bi_3 P w x t
theorem az_2{P:Program}{w:World}:∀{ks:List Af} {us:List Value},Vals (ks.map kV) us->ItemsAre (Di P w) ks us
 | [],_,r=>by rw [List.map_nil] at r;cases r;exact .nil
 |k::ks,_,r=>by
  rw [List.map_cons] at r;cases r with
  |cons h t=>exact .cons (ae_0 h) (az_2 t)
abbrev KT(H:Hp):List (List Af×V)->List (List Af×Addr×Value)->Prop:=Paired λp q=>p.1=q.1/\H q.2.1=some (.tup (p.1.map kV))/\RelV p.2 q.2.2
theorem KT.val{kvs:List (List Af×V)}{xs:List (List Af×Addr×Value)}(r:KT H kvs xs)(k:List Af):RelO (Ch kvs k) ((atKey xs k).map (·.2)):=by
 induction r with
 |nil=>exact True.intro
 | @cons p q ps qs h t ih=>
  obtain⟨h1,_,h2⟩:=h
  by_cases e:p.1=k
  ·have e':q.1=k:=h1.symm.trans e;have b:atKey (q::qs) k=some q.2:=by simp [atKey,List.find?_cons,e']
   rw [h_9 e,b];exact h2
  ·have e':¬q.1=k:=λz=>e (h1.trans z);have b:atKey (q::qs) k=atKey qs k:=by simp [atKey,List.find?_cons,e']
   rw [h_1 e,b];exact ih
theorem KT.repl{kvs:List (List Af×V)}{xs:List (List Af×Addr×Value)}(r:KT H kvs xs)(k:List Af){y:V}{u:Value}(ry:RelV y u):
  KT H (kvs.map λkv=>if kv.1=k then(kv.1,y) else kv) (xs.map (putAt k u)):=by
 induction r with
 |nil=>exact .nil
 | @cons p q ps qs h t ih=>
  rw [List.map_cons,List.map_cons];refine .cons ?_ ih;obtain⟨h1,h2,h3⟩:=h;unfold putAt
  by_cases e:p.1=k
  ·rw [if_pos e,if_pos (h1.symm.trans e)];exact⟨h1,h2,ry⟩
  ·rw [if_neg e,if_neg (λz=>e (h1.trans z))];exact⟨h1,h2,h3⟩
theorem KT.put{kvs:List (List Af×V)}{xs:List (List Af×Addr×Value)}(r:KT H kvs xs)(k:List Af){b:Addr}{y:V}{u:Value}(hb:H b=some (.tup (k.map kV)))(ry:RelV y u):
  KT H (El kvs k y) (storedH xs k b u):=by
 have e:(kvs.any λkv=>decide (kv.1=k))=(atKey xs k).isSome:=by
  rw [x_1,(r.val k).isSome_eq,Option.isSome_map]
 unfold El storedH;rw [e]
 by_cases q:(atKey xs k).isSome=true
 ·rw [if_pos q,if_pos q];exact r.repl k ry
 ·rw [if_neg q,if_neg q];exact Paired.snoc r ⟨rfl,hb,ry⟩
theorem KT.keeps{H H':Hp}{kvs:List (List Af×V)}{xs:List (List Af×Addr×Value)}(r:KT H kvs xs)(ht:∀b ys,H b=some (.tup ys)->H' b=some (.tup ys)):KT H' kvs xs:=
 Paired.mapP r λ_ _ z=>⟨z.1,ht _ _ z.2.1,z.2.2⟩
section
variable{P:Program}{w:World}{H:Hp}{h:Heap}{a:Addr}
theorem df_2{u:HO}(ok:HOk P w H h)(e:Rd H a u):ObjOk P w H h a u:=e.ok ok
theorem q_6{kvs:List (Af×V)}(ok:HOk P w H h)(e:Rd H a (.dK kvs)):kvs.length<=sizeLine/\(a ==sysModules)=false/\∃vs,KV kvs vs/\h.DictOf (Di P w) a vs:=
 show ObjOk P w H h a (.dK kvs) from df_2 ok e
theorem bx_8{kvs:List (Af×V)}(ok:HOk P w H h)(e:H a=some (.dK kvs)):kvs.length<=sizeLine/\(a ==sysModules)=false/\∃vs,KV kvs vs/\h.DictOf (Di P w) a vs:=q_6 ok (.inl e)
theorem ah_4{ks:List Af}(ok:HOk P w H h)(e:H a=some (.tup (ks.map kV))):(tupleKind (Di P w)).is h ks a:=by
 obtain⟨_,its,r,o,h1,h2,n,h3⟩:=(show ObjOk P w H h a (.tup (ks.map kV)) from ok a _ e);exact⟨o,its.toArray,n,h1,h2,h3,by simpa using az_2 r⟩
theorem aq_5{kvs:List (List Af×V)}(ok:HOk P w H h)(e:Rd H a (.dT kvs)):kvs.length<=sizeLine/\(a ==sysModules)=false/\
  ∃xs,KT H kvs xs/\h.DictOfH (tupleKind (Di P w)) a xs:=by
 obtain⟨z,y,xs,r,o,es,ep,h1,h2,h3,h4,h5⟩:=(show ObjOk P w H h a (.dT kvs) from df_2 ok e);refine⟨z,y,xs,r,o,es,ep,h1,h2,h3,h4,λx hx=> ?_,h5⟩;have all:∀{l:List (List Af×V)} {m:List (List Af×Addr×Value)},KT H l m->∀x∈m,(tupleKind (Di P w)).is h x.1 x.2.1:=by
  intro l m q
  induction q with
  |nil=>intro x hx;exact nomatch hx
  | @cons p q ps qs hq t ih=>
   intro x hx;rcases List.mem_cons.mp hx with e|hx
   ·subst e;exact ah_4 ok (by rw [<-hq.1];exact hq.2.1)
   ·exact ih x hx
 exact all r x hx
theorem dq_4{kvs:List (List Af×V)}(ok:HOk P w H h)(e:H a=some (.dT kvs)):kvs.length<=sizeLine/\(a ==sysModules)=false/\
  ∃xs,KT H kvs xs/\h.DictOfH (tupleKind (Di P w)) a xs:=aq_5 ok (.inl e)
end
def DGet(H:Hp)(a:Addr)(y:V)(r:Option V):Prop:=
 (∃kvs k,Rd H a (.dK kvs)/\y=kV k/\r=Ch kvs k)\/∃kvs k b,Rd H a (.dT kvs)/\y=.ref b/\H b=some (.tup (k.map kV))/\r=Ch kvs k
def DPut(H:Hp)(a:Addr)(y v:V)(H':Hp):Prop:=
 (∃kvs k,H a=some (.dK kvs)/\y=kV k/\kvs.length < sizeLine/\H'=upd H a (.dK (El kvs k v)))\/
 ∃kvs k b,H a=some (.dT kvs)/\y=.ref b/\H b=some (.tup (k.map kV))/\kvs.length < sizeLine/\H'=upd H a (.dT (El kvs k v))
theorem DGet.t{a b:Addr}{kvs:List (List Af×V)}{k:List Af}(e:H a=some (.dT kvs))(eb:H b=some (.tup (k.map kV))):DGet H a (.ref b) (Ch kvs k):=.inr ⟨kvs,k,b,.inl e,rfl,eb,rfl⟩
theorem DPut.k{a:Addr}{kvs:List (Af×V)}{k:Af}(e:H a=some (.dK kvs))(hl:kvs.length < sizeLine):DPut H a (kV k) v (upd H a (.dK (El kvs k v))):=.inl ⟨kvs,k,e,rfl,hl,rfl⟩
theorem DPut.t{a b:Addr}{kvs:List (List Af×V)}{k:List Af}(e:H a=some (.dT kvs))(eb:H b=some (.tup (k.map kV)))(hl:kvs.length < sizeLine):
  DPut H a (.ref b) v (upd H a (.dT (El kvs k v))):=.inr ⟨kvs,k,b,e,rfl,eb,hl,rfl⟩
section
variable{X:Cx}{zd:List (Addr×Obj)}{σ:St}{H:Hp}{s:Shared}{a:Addr}{y v:V}{u r:Value}{o:Option V}{A:Around}{E:Value->Shared->Prop}
theorem Inv.big(I:Inv X zd σ H s):sysModules < s.heap.objs.size:=by
 have h:mainGlobals < s.heap.objs.size:=(I.mod.glob.keeps I.bk).lt;exact Nat.lt_trans (by decide) h
theorem ce_8{Q:Value->Shared->Prop}(hu:A.units + 1 < cLine)(I:Inv X zd σ H s)(g:DGet H a y (some v))(ry:RelV y u)(h:∀w' s',Inv X zd σ H s'->RelV v w'->Q w' s'):
  wpAny (model X.prog X.w) A (getItem (.ref a) u) Q E s:=by
 rcases g with⟨kvs,k,e,ey,l⟩|⟨kvs,k,b,e,ey,eb,l⟩
 ·subst ey;obtain⟨z,hd,vs,rel,dd⟩:=q_6 I.hok e;obtain⟨w',hw,rw'⟩:=RelO.some_of (v:=v) (o:=valueAt vs k) (by rw [l];exact rel.val k);exact wpAny_getItem_of (ae_0 ry) dd.mapOf hw (h w' _ (I.tok _) rw')
 ·subst ey;cases(show u=Value.ref b from ry);obtain⟨z,hd,xs,rel,dd⟩:=aq_5 I.hok e;obtain⟨w',hw,rw'⟩:=RelO.some_of (v:=v) (o:=(atKey xs k).map (·.2)) (by rw [l];exact rel.val k);obtain⟨p,hp,hp2⟩:=Option.map_eq_some_iff.mp hw;refine wpAny_getItem_heap (tupleKind_room_in1 hu) (ah_4 I.hok eb) dd hp ?_;rw [hp2];exact h w' _ (I.tok _) rw'
theorem d_in{Q:Value->Shared->Prop}(hu:A.units + 1 < cLine)(I:Inv X zd σ H s)(g:DGet H a y o)(ry:RelV y u)(h:∀s',Inv X zd σ H s'->Q (.bool o.isSome) s'):
  wpAny (model X.prog X.w) A (compareOp .In u (.ref a)) Q E s:=by
 rcases g with⟨kvs,k,e,ey,l⟩|⟨kvs,k,b,e,ey,eb,l⟩
 ·subst ey;obtain⟨z,hd,vs,rel,dd⟩:=q_6 I.hok e;refine wpAny_in_of (ae_0 ry) hd dd.mapOf ?_;rw [<-(rel.val k).isSome_eq,<-l];exact h _ (I.tok _)
 ·subst ey;cases(show u=Value.ref b from ry);obtain⟨z,hd,xs,rel,dd⟩:=aq_5 I.hok e;refine wpAny_in_heap (tupleKind_room_in1 hu) (ah_4 I.hok eb) hd dd ?_;have q:=(rel.val k).isSome_eq;rw [Option.isSome_map] at q;rw [<-q,<-l];exact h _ (I.tok _)
theorem cw_6{Q:Value->Shared->Prop}(hu:A.units + 1 < cLine)(I:Inv X zd σ H s)(g:DGet H a y o)(ry:RelV y u)(h:∀s',Inv X zd σ H s'->Q (.bool (!o.isSome)) s'):
  wpAny (model X.prog X.w) A (compareOp .NotIn u (.ref a)) Q E s:=by
 rcases g with⟨kvs,k,e,ey,l⟩|⟨kvs,k,b,e,ey,eb,l⟩
 ·subst ey;obtain⟨z,hd,vs,rel,dd⟩:=q_6 I.hok e;refine wpAny_notIn_of (ae_0 ry) hd dd.mapOf ?_;rw [<-(rel.val k).isSome_eq,<-l];exact h _ (I.tok _)
 ·subst ey;cases(show u=Value.ref b from ry);obtain⟨z,hd,xs,rel,dd⟩:=aq_5 I.hok e;refine wpAny_notIn_heap (tupleKind_room_in1 hu) (ah_4 I.hok eb) hd dd ?_;have q:=(rel.val k).isSome_eq;rw [Option.isSome_map] at q;rw [<-q,<-l];exact h _ (I.tok _)
theorem ae_1{h':Heap}{t':Nat}{ob:HO}(I:Inv X zd σ H s)(mu:Mut (H a))(hs:Heap.SameBut a s.heap h')(he:∃q,h'.get? a=some q)(new:ObjOk X.prog X.w (upd H a ob) h' a ob):
  Inv X zd σ (upd H a ob) {s with heap:=h',toks:=t'}:=
 I.write (x:=a) (e:=a) mu (.inl rfl) (λb q hb z=>(hs.2 b hb).trans z) he new
theorem bd_9{P:Program}{w:World}{H':Hp}{h':Heap}{kvs:List (Af×V)}{vs:List (Af×Value)}(z:kvs.length<=sizeLine)(hd:(a ==sysModules)=false)(rel:KV kvs vs)(dd:h'.DictOf (Di P w) a vs):
  ObjOk P w H' h' a (.dK kvs):=⟨z,hd,vs,rel,dd⟩
theorem ce_9{H':Hp}{Q:Unit->Shared->Prop}(hu:A.units + 1 < cLine)(I:Inv X zd σ H s)(g:DPut H a y v H')(ry:RelV y u)(rv:RelV v r)(h:∀s',Inv X zd σ H' s'->Q () s'):
  wpAny (model X.prog X.w) A (setItem (.ref a) u r) Q E s:=by
 rcases g with⟨kvs,k,e,ey,l,eH⟩|⟨kvs,k,b,e,ey,eb,l,eH⟩
 ·subst ey eH;obtain⟨z,hd,vs,rel,dd⟩:=bx_8 I.hok e;have hz:vs.length<=sizeLine:=by rw [<-rel.length];exact z
  have hl:(El kvs k v).length<=sizeLine:=by have:=s_4 kvs k v;omega
  refine wpAny_setItem_pairs (hsz:=hz) (ae_0 ry) dd λh' dd' hs=>h _ ?_;have he:∃q,h'.get? a=some q:=let⟨q,_,_,hq,_⟩:=dd';⟨q,hq⟩;exact ae_1 I (by rw [e];exact True.intro) hs he (bd_9 hl hd (rel.put k rv) dd')
 ·subst ey eH;cases(show u=Value.ref b from ry);obtain⟨z,hd,xs,rel,dd⟩:=dq_4 I.hok e;have hz:xs.length<=sizeLine:=by rw [<-Paired.length rel];exact z
  have hl:(El kvs k v).length<=sizeLine:=by have:=s_4 kvs k v;omega
  refine wpAny_setItem_heap (hsz:=hz) (tupleKind_room_in1 hu) (ah_4 I.hok eb) dd λh' dd' hs=>h _ ?_;obtain⟨q,es,ep,hq,h2,h3,h4,_,h5⟩:=dd';refine ae_1 I (by rw [e];exact True.intro) hs ⟨q,hq⟩ ⟨hl,hd,_,(rel.put k eb rv).keeps λc ys ec=> ?_,q,es,ep,hq,h2,h3,h4,h5⟩;rw [An (do_5 ec e (λz=>nomatch z))];exact ec
end
section
variable{X:Cx}{zd:List (Addr×Obj)}{σ:St}{H:Hp}{s:Shared}{a:Addr}{kvs:List (Af×V)}{k:Af}{u:Value}{A:Around}{E:Value->Shared->Prop}
theorem dq_5{more:List Value}{Q:Value->Shared->Prop}(I:Inv X zd σ H s)(e:H a=some (.dK kvs))(ry:RelV (kV k) u)(l:Ch kvs k=some v)(hm:more= []\/∃x,more= [x])
  (h:∀w' s',Inv X zd σ (upd H a (.dK (o_0 kvs k))) s'->RelV v w'->Q w' s'):wpAny (model X.prog X.w) A (call (.builtin "dict.pop") (.ref a::u::more)) Q E s:=by
 obtain⟨z,hd,vs,rel,dd⟩:=bx_8 I.hok e;obtain⟨w',hw,rw'⟩:=RelO.some_of (v:=v) (o:=valueAt vs k) (by rw [<-l];exact rel.val k);have hp:(keyPart u).isSome=true:=by
  cases k with
  |inl i=>obtain⟨t,q⟩:=(show∃t,u=Value.int i t from ry);subst q;rfl
  |inr x=>obtain⟨t,q⟩:=(show∃t,u=Value.str x t from ry);subst q;rfl
 have ha:argsOk "dict.pop" ⟨.ref a::u::more,[]⟩:=by
  rcases hm with q|⟨x,q⟩
  ·subst q;exact PySem.F.args_dict_pop_2 _ _
  ·subst q;exact PySem.F.args_dict_pop_3 _ _ _
 refine call_meetsIn PySem.F.slot_dict_pop dd.typeIs PySem.F.entry_dict_pop ha (meets_dict_pop_there (Di X.prog X.w) a (ae_0 ry) more hm hp)
  ⟨vs,w',dd,by rw [<-rel.length];exact z,hw,λh' dd' hs=>h w' _ ?_ rw'⟩
 have he:∃q,h'.get? a=some q:=let⟨q,_,_,hq,_⟩:=dd';⟨q,hq⟩;exact ae_1 I (by rw [e];exact True.intro) hs he (bd_9 (Nat.le_trans (cl_6 kvs k) z) hd (rel.drop k) dd')
theorem dq_6{Q:Value->Shared->Prop}(I:Inv X zd σ H s)(e:Rd H a (.dK kvs))(h:∀t s',Inv X zd σ H s'->Q (.int kvs.length t) s'):wpAny (model X.prog X.w) A (call (.builtin "len") [.ref a]) Q E s:=by
 obtain⟨z,hd,vs,rel,dd⟩:=q_6 I.hok e;refine call_len_dict hd dd (by rw [<-rel.length];rw [sizeLine_eq] at z;omega) ?_;rw [<-rel.length];exact h _ _ (I.tok _)
end
def NoSl(i:Expr):Prop:=∀ov iv,subscripted i false ov iv=operate [ov,iv] (getItem ov iv)
theorem cw_7{prog:Program}{w:World}{A:Around}{E:Value->Shared->Prop}{s:Shared}{env:Env}{value slice:Expr}{T id:String}{Q:Value->Shared->Prop}
  (hl:typeLookup (.type T) "__getitem__" =pure (some (.builtin id))) (hs:NoSl slice)
  (h:wpAny (model prog w) A (eval value env) (λo s₁=>wpAny (model prog w) A (eval slice env) (λi s₂=>s₂.TypeIs o T/\wpAny (model prog w) A (getItem o i) Q E s₂) E s₁) E s):
  wpAny (model prog w) A (eval (.Subscript value slice pos) env) Q E s:=by
 refine Subscript_ (wpAny_mono h (λo s₁ h₁=>wpAny_mono h₁ (λi s₂ h₂=> ?_) λ_ _ x=>x) λ_ _ x=>x);obtain⟨hT,h₂⟩:=h₂;unfold subscriptTail;refine wpAny_bind ?_;rw [getitemInPython_of_ne hT.not_modules];refine wpAny_bind (wpAny_specialOf hT hl ?_);have fin:wpAny (model prog w) A (subscripted slice false o i) (λr s₃=>wpAny (model prog w) A (letTemporaryGo value o r >>=λ_=>pure r) Q E s₃) E s₂:=by
  rw [hs o i];exact wpAny_operating (wpAny_mono h₂ (λr s₃ h₃=>wpAny_bind (wpAny_letTemporaryGo (wpAny_pure h₃))) λ_ _ x=>x)
 first
  |exact wpAny_pure (wpAny_bind fin)
  |exact wpAny_bind (wpAny_pure (wpAny_bind fin))
  |exact wpAny_bind fin
theorem bj_1{zd:List (Addr×Obj)}{σ:St}{s:Shared}{a:Addr}{y:V}{o:Option V}(I:Inv X zd σ H s)(g:DGet H a y o):s.TypeIs (.ref a) "dict" :=by
 rcases g with⟨kvs,k,e,_,_⟩|⟨kvs,k,b,e,_,_,_⟩
 ·obtain⟨_,_,vs,_,dd⟩:=q_6 I.hok e;exact dd.typeIs
 ·obtain⟨_,_,xs,_,dd⟩:=aq_5 I.hok e;exact dd.typeIs
def dq_7(td ty:TE):TE:=λ σ H Q=>td σ H λx H1=>ty σ H1 λy H2=>∃a v,x=.ref a/\DGet H2 a y (some v)/\Q v H2
def dq_8(td ty tv:TE):TS:=λD σ H=>tv σ H λv H1=>td σ H1 λx H2=>ty σ H2 λy H3=>∃a H4,x=.ref a/\DPut H3 a y v H4/\D.nx σ H4
section
variable{X:Cx}{o i e value:Expr}{pos pos' zh:Pos}{td ty tv:TE}
theorem cw_8(hu:X.A.units + 1 < cLine)(ho:PE X o td)(hi:PE X i ty)(hs:NoSl i):PE X (.Subscript o i pos) (dq_7 td ty):=by
 intro zd s σ H Q I h;refine cw_7 PySem.F.slot_dict_getitem.lookup hs (Aw (ho zd s σ H _ I h) λu s1 ⟨x,H1,I1,rx,q1⟩=>Aw (hi zd s1 σ H1 _ I1 q1) λiv s2 ⟨y,H2,I2,ry,a,v,ex,g,q2⟩=> ?_);subst ex;obtain rfl:u=Value.ref a:=rx;exact⟨bj_1 I2 g,ce_8 hu I2 g ry λw' s3 I3 rw'=>⟨v,H2,I3,rw',q2⟩⟩
theorem bx_9(hu:X.A.units + 1 < cLine)(ho:PE X o td)(hi:PE X i ty)(hv:PE X value tv)(hs:swapsWith value (some (.Subscript o i pos')) pos.line X.env=pure false):
  PS X (.Assign [.Subscript o i pos'] value pos) (dq_8 td ty tv):=by
 intro zd s σ H D I h;refine wpAny_Assign_Subscript (Aw (hv zd s σ H _ I h) λr s1 ⟨v,H1,I1,rv,q1⟩=>Aw (ho zd s1 σ H1 _ I1 q1) λu s2 ⟨x,H2,I2,rx,q2⟩=>Aw (hi zd s2 σ H2 _ I2 q2) λiv s3 ⟨y,H3,I3,ry,a,H4,ex,g,q3⟩=> ?_) hs;subst ex;obtain rfl:u=Value.ref a:=rx;exact ce_9 hu I3 g ry rv λs4 I4=>⟨σ,H4,I4,q3⟩
end
theorem bj_2{P:Program}{w:World}(h:Heap)(hb:sysModules < h.objs.size):ObjOk P w H (h.push {cls:=.type "dict",data:=.dict #[]}) h.objs.size (.dK []):=
 ⟨Nat.zero_le _,beq_eq_false_iff_ne.mpr (Ne.symm (Nat.ne_of_lt hb)),[],.nil,Heap.DictOf.new h⟩
def dj_9:TE:=λ_ H Q=>∀p,H p=none->Q (.ref p) (upd H p (.dK []))
section
variable{X:Cx}{pos:Pos}
theorem cl_7:PE X (.Dict [] [] pos) dj_9:=λzd s σ H Q I h=>
 wpAny_Dict_empty ⟨.ref s.heap.objs.size,_,I.laid (a:=s.heap.objs.size) (o:=.dK []) (t':=s.toks) (λ_ _ q=>Heap.get?_push_of_some _ q) (Nat.le_refl _) (bj_2 s.heap I.big),rfl,h _ (I.hok.fresh (Nat.le_refl _))⟩
end
def bs_3:List (TE×TE)->St->Hp->(List (V×V)->Hp->Prop)->Prop
 | [],_,H,Q=>Q [] H
 |(tk,tv)::r,σ,H,Q=>tk σ H λx H1=>tv σ H1 λy H2=>bs_3 r σ H2 λps H3=>Q ((x,y)::ps) H3
abbrev VV:List (V×V)->List (Value×Value)->Prop:=Paired λp q=>RelV p.1 q.1/\RelV p.2 q.2
def PPs(X:Cx)(pos:Pos)(keys:List (Option Expr))(values:List Expr)(trs:List (TE×TE)):Prop:=
 ∀(zd:List (Addr×Obj)) (s:Shared) (σ:St) (H:Hp) (Q:List (V×V)->Hp->Prop),Inv X zd σ H s->bs_3 trs σ H Q->
  wpAny (model X.prog X.w) X.A (evalPairs (pairTrees keys values X.env pos)) (λvs s'=>∃ps H',Inv X zd σ H' s'/\VV ps vs/\Q ps H') X.xe s
theorem cw_9:PPs X pos [] [] []:=λzd s σ H Q I h=>pairTrees_nil_walk ⟨[],H,I,.nil,h⟩
theorem cl_8{k v:Expr}{ks:List (Option Expr)}{vs:List Expr}{tk tv:TE}{trs:List (TE×TE)}(hk:PE X k tk)(hv:PE X v tv)(hr:PPs X pos ks vs trs):
  PPs X pos (some k::ks) (v::vs) ((tk,tv)::trs):=λzd s σ H Q I h=>
 pairTrees_cons_walk (Aw (hk zd s σ H _ I h) λu s1 ⟨x,H1,I1,rx,q1⟩=>Aw (hv zd s1 σ H1 _ I1 q1) λw2 s2 ⟨y,H2,I2,ry,q2⟩=>
  Aw (hr zd s2 σ H2 _ I2 q2) λws s3 ⟨ps,H3,I3,rel,q3⟩=>⟨(x,y)::ps,H3,I3,.cons ⟨rx,ry⟩ rel,q3⟩)
def aq_6(kvs more:List (Af×V)):List (Af×V):=more.foldl (λzp kv=>El zp kv.1 kv.2) kvs
theorem KV.merge:∀{more:List (Af×V)} {rs:List (Af×Value)} {kvs:List (Af×V)} {vs:List (Af×Value)},KV more rs->KV kvs vs->KV (aq_6 kvs more) (merged vs rs):=by
 intro more rs kvs vs r;unfold KV at r
 induction r generalizing kvs vs with
 |nil=>intro q;exact q
 | @cons p q ps qs h t ih=>
  intro r0;have e:KV (El kvs p.1 p.2) (stored vs q.1 q.2):=by
   have:=r0.put p.1 h.2;rw [<-h.1];exact this
  exact ih e
theorem ab_5:∀(more kvs:List (Af×V)),(aq_6 kvs more).length<=kvs.length + more.length
 | [],kvs=>by show kvs.length<=kvs.length + 0;omega
 |p::r,kvs=>by
  have h1:=ab_5 r (El kvs p.1 p.2);have h2:=s_4 kvs p.1 p.2;show(aq_6 (El kvs p.1 p.2) r).length<=_;rw [List.length_cons];omega
theorem aq_7{P:Program}{w:World}:∀{kvs:List (Af×V)} {ws:List (Value×Value)},VV (kvs.map λkv=>(kV kv.1,kv.2)) ws->∃rs,Carries (Di P w) ws rs/\KV kvs rs
 | [],_,r=>by rw [List.map_nil] at r;cases r;exact⟨[],True.intro,.nil⟩
 |p::kvs,_,r=>by
  rw [List.map_cons] at r;cases r with
  | @cons a b as bs h t=>
   obtain⟨rs,c,q⟩:=aq_7 (P:=P) (w:=w) t;obtain⟨b1,b2⟩:=b;exact⟨(p.1,b2)::rs,⟨ae_0 h.1,rfl,c⟩,.cons ⟨rfl,h.2⟩ q⟩
def dq_9(trs:List (TE×TE)):TE:=λ σ H Q=>∀p,H p=none->bs_3 trs σ (upd H p (.dK [])) λps H2=>H2 p=some (.dK [])/\∃kvs:List (Af×V),ps=kvs.map (λkv=>(kV kv.1,kv.2))/\kvs.length<=15/\Q (.ref p) (upd H2 p (.dK (aq_6 [] kvs)))
theorem cx_0{keys:List (Option Expr)}{values:List Expr}{trs:List (TE×TE)}(h:PPs X pos keys values trs)(bh:keys.all (·.isSome)=true)(hl:keys.length=values.length)(h0:keys≠ [])
  (h15:keys.length<=15):PE X (.Dict keys values pos) (dq_9 trs):=by
 intro zd s σ H Q I q;have hn:=I.hok.fresh (Nat.le_refl s.heap.objs.size);have I1:=I.laid (a:=s.heap.objs.size) (o:=.dK []) (h':=s.heap.push {cls:=.type "dict",data:=.dict #[]}) (t':=s.toks) (λ_ _ q=>Heap.get?_push_of_some _ q) (Nat.le_refl _) (bj_2 s.heap I.big);refine wpAny_Dict_walk (knd:=Di X.prog X.w) bh hl h0 h15 (Aw (h zd _ σ _ _ I1 (q _ hn)) λws s2 ⟨ps,H2,I2,rel,e,kvs,ep,lk,q2⟩=> ?_);subst ep;obtain⟨rs,c,rk⟩:=aq_7 (P:=X.prog) (w:=X.w) rel;obtain⟨z,hd,vs0,r0,dd⟩:=bx_8 I2.hok e;cases r0;refine⟨rs,c,dd,λh' dd' hs=>⟨.ref s.heap.objs.size,_, ?_,rfl,q2⟩⟩;have hz:(aq_6 [] kvs).length<=sizeLine:=by
  have h1:=ab_5 kvs [];rw [List.length_nil] at h1;rw [sizeLine_eq];omega
 have he:∃q,h'.get? s.heap.objs.size=some q:=let⟨q,_,_,hq,_⟩:=dd';⟨q,hq⟩;exact ae_1 I2 (by rw [e];exact True.intro) hs he (bd_9 hz hd (rk.merge .nil) dd')
structure M1(X:Cx)(o:Expr)(m:Str)(zg:Pos)(e:Expr)(zf:Pos):Prop where
 base:attributeBase o m X.env (eval o X.env)=eval o X.env
 few:((backTo zf (starEach [e] X.env)).all (λx=> !x.1) && (backToKw zf (keywordEach [] X.env)).all (λx=>x.1.isSome)
  && decide (([e]:List Expr).length + ([]:List Keyword).length + (if([]:List Keyword).isEmpty then 0 else 1) < 30))=true
 line:(zg.endLine ==zf.line)=true
 trees:backTo zf (starEach [e] X.env)= [(false,eval e X.env)]
structure M2(X:Cx)(o:Expr)(m:Str)(zg:Pos)(e f:Expr)(zf:Pos):Prop where
 base:attributeBase o m X.env (eval o X.env)=eval o X.env
 few:((backTo zf (starEach [e,f] X.env)).all (λx=> !x.1) && (backToKw zf (keywordEach [] X.env)).all (λx=>x.1.isSome)
  && decide (([e,f]:List Expr).length + ([]:List Keyword).length + (if([]:List Keyword).isEmpty then 0 else 1) < 30))=true
 line:(zg.endLine ==zf.line)=true
 trees:backTo zf (starEach [e,f] X.env)= [(false,eval e X.env),(false,eval f X.env)]
def IsD(H:Hp)(a:Addr):Prop:=(∃kvs,Rd H a (.dK kvs))\/∃kvs,Rd H a (.dT kvs)
theorem bs_4{zd:List (Addr×Obj)}{σ:St}{s:Shared}{a:Addr}(I:Inv X zd σ H s)(d:IsD H a):
  s.TypeIs (.ref a) "dict" /\(∀b,Value.ref a=.ref b->∃ob,s.heap.get? b=some ob/\ob.dict=none)/\(a ==sysModules)=false:=by
 rcases d with⟨kvs,e⟩|⟨kvs,e⟩
 ·obtain⟨_,hd,vs,_,dd⟩:=q_6 I.hok e;refine⟨dd.typeIs,λb q=> ?_,hd⟩;cases q;obtain⟨ob,_,_,h1,h2,_⟩:=dd;exact⟨ob,h1,h2.2.1⟩
 ·obtain⟨_,hd,xs,_,dd⟩:=aq_5 I.hok e;refine⟨dd.typeIs,λb q=> ?_,hd⟩;cases q;obtain⟨ob,_,_,h1,h2,_⟩:=dd;exact⟨ob,h1,h2.2.1⟩
section
variable{X:Cx}{zd:List (Addr×Obj)}{σ:St}{H:Hp}{s:Shared}{a:Addr}{y d:V}{u r:Value}{o:Option V}{A:Around}{E:Value->Shared->Prop}
theorem dk_0{Q:Value->Shared->Prop}(hu:A.units + 1 < cLine)(I:Inv X zd σ H s)(g:DGet H a y o)(ry:RelV y u)(rd:RelV d r)(h:∀w' s',Inv X zd σ H s'->RelV (o.getD d) w'->Q w' s'):
  wpAny (model X.prog X.w) A (call (.builtin "dict.get") [.ref a,u,r]) Q E s:=by
 rcases g with⟨kvs,k,e,ey,l⟩|⟨kvs,k,b,e,ey,eb,l⟩
 ·subst ey;obtain⟨z,hd,vs,rel,dd⟩:=q_6 I.hok e;refine call_meetsIn PySem.F.slot_dict_get dd.typeIs PySem.F.entry_dict_get (PySem.F.args_dict_get_3 _ _ _) (meets_dict_get_default (Di X.prog X.w) a (ae_0 ry) hd r) ⟨_,dd.mapOf,h _ _ (I.tok _) ?_⟩;rw [l];exact(rel.val k).getD rd
 ·subst ey;cases(show u=Value.ref b from ry);obtain⟨z,hd,xs,rel,dd⟩:=aq_5 I.hok e;refine call_meetsIn PySem.F.slot_dict_get dd.typeIs PySem.F.entry_dict_get (PySem.F.args_dict_get_3 _ _ _) (meetsH_dict_get_default (tupleKind (Di X.prog X.w)) a b hd r) ⟨tupleKind_room_in1 hu,k,xs,ah_4 I.hok eb,dd,h _ _ (I.tok _) ?_⟩;rw [l];exact(rel.val k).getD rd
end
def dk_1(td ty tx:TE):TE:=λ σ H Q=>td σ H λx H1=>∃a,x=.ref a/\IsD H1 a/\ty σ H1 λy H2=>tx σ H2 λz H3=>∃o,DGet H3 a y o/\Q (o.getD z) H3
def dk_2(td ty:TE):TE:=λ σ H Q=>td σ H λx H1=>∃a,x=.ref a/\IsD H1 a/\ty σ H1 λy H2=>∃kvs k v,H2 a=some (.dK kvs)/\y=kV k/\Ch kvs k=some v/\Q v (upd H2 a (.dK (o_0 kvs k)))
section
variable{X:Cx}{o e f:Expr}{zg zf:Pos}{td ty tx:TE}
theorem cl_9(hu:X.A.units + 1 < cLine)(ho:PE X o td)(he:PE X e ty)(hf:PE X f tx)(m:M2 X o "get" zg e f zf):PE X (.Call (.Attribute o "get" zg) [e,f] [] zf) (dk_1 td ty tx):=by
 intro zd s σ H Q I h;refine wpAny_Call_method m.base m.few m.line PySem.F.plainAttrs_dict PySem.F.slot_dict_get PySem.F.type_dict_get (Aw (ho zd s σ H _ I h) λu s1 ⟨x,H1,I1,rx,a,ex,d,q1⟩=> ?_);subst ex;obtain rfl:u=Value.ref a:=rx;obtain⟨t1,t2,_⟩:=bs_4 I1 d;refine⟨t1,t2, ?_⟩;rw [m.trees];refine Calls.callWith_builtin rfl (Calls.evalArgs_plain (Calls.spliced_cons (Aw (he zd s1 σ H1 _ I1 q1) λiv s2 ⟨y,H2,I2,ry,q2⟩=>
  Calls.spliced_cons (Aw (hf zd s2 σ H2 _ I2 q2) λfv s3 ⟨z,H3,I3,rz,ov,g,q3⟩=>Calls.spliced_nil ?_))))
 exact dk_0 hu I3 g ry rz λw' s4 I4 rw'=>⟨_,H3,I4,rw',q3⟩
theorem bj_3(ho:PE X o td)(he:PE X e ty)(m:M1 X o "pop" zg e zf):PE X (.Call (.Attribute o "pop" zg) [e] [] zf) (dk_2 td ty):=by
 intro zd s σ H Q I h;refine wpAny_Call_method m.base m.few m.line PySem.F.plainAttrs_dict PySem.F.slot_dict_pop PySem.F.type_dict_pop (Aw (ho zd s σ H _ I h) λu s1 ⟨x,H1,I1,rx,a,ex,d,q1⟩=> ?_);subst ex;obtain rfl:u=Value.ref a:=rx;obtain⟨t1,t2,_⟩:=bs_4 I1 d;refine⟨t1,t2, ?_⟩;rw [m.trees];refine Calls.callWith_builtin rfl (Calls.evalArgs_plain (Calls.spliced_cons (Aw (he zd s1 σ H1 _ I1 q1) λiv s2 ⟨y,H2,I2,ry,kvs,k,v,ea,ey,l,q2⟩=>Calls.spliced_nil ?_)));subst ey;exact dq_5 I2 ea ry l (.inl rfl) λw' s3 I3 rw'=>⟨v,_,I3,rw',q2⟩
end
section
variable{X:Cx}{zd:List (Addr×Obj)}{σ:St}{H:Hp}{s:Shared}{a:Addr}{kvs:List (Af×V)}{A:Around}{E:Value->Shared->Prop}
end
section
variable{X:Cx}{zd:List (Addr×Obj)}{σ:St}{H:Hp}{s:Shared}{a:Addr}{y:V}{u:Value}{A:Around}{E:Value->Shared->Prop}
end
section
variable{X:Cx}
end
section
variable{κ:Type} [DecidableEq κ]
theorem cf_0{p:κ×V}{r:List (κ×V)}{k:κ}(e:p.1=k):o_0 (p::r) k=o_0 r k:=by
 unfold o_0;rw [List.filter_cons,if_neg (by simp [e])]
theorem cf_1{p:κ×V}{r:List (κ×V)}{k:κ}(e:¬p.1=k):o_0 (p::r) k=p::o_0 r k:=by
 unfold o_0;rw [List.filter_cons,if_pos (by simp [e])]
end
end L2
namespace L3
open PySem PySem.Spec PyProof.Rows L2
variable{K:Frag}{fd:FuncData}{mg:Str->Option Value}{us:List Value}{base:Heap}{H:Hp}{X:Cx}{pos:Pos}{v:V}
section
variable{X:Cx}
theorem Dc{EX:EXT}{G H:Hp}{Q:VK}{d:D}(o:Out K EX G H (.ok (.sh d)) Q)(g:Same G H)(r:Has K G v d):Q v H:=WP.use o g r
def dr_0(K:Frag):R2:=λx y H Q=>∃l b xs zs,x=.ref l/\y=.ref b/\SqL K H l xs/\SqL K H b zs/\xs.length + zs.length<=sizeLine/\∀p,H p=none->Q (.ref p) (upd H p (.lst (xs ++ zs)))
theorem cx_1:OpR X (binaryOp .Add) (dr_0 X.K):=by
 intro zd s σ H x y v u Q I rx ry h;obtain⟨l,b,xs,zs,rfl,rfl,hH,hB,hz,q⟩:=h;cases rx;cases ry;obtain⟨its,r,⟨o,n,e,c,dd,dat⟩,z⟩:=I.list hH;obtain⟨its2,r2,⟨o2,n2,e2,c2,dd2,dat2⟩,z2⟩:=I.list hB;have hl:=r.length;have hl2:=r2.length;obtain⟨cls,dd',data,sl⟩:=o;obtain⟨gi,fz,data2,sl2⟩:=o2;simp only at c dd dat c2 dd2 dat2;subst c dd dat c2 dd2 dat2;refine concat_meets ⟨_,e,rfl⟩ ⟨_,e2,rfl⟩ noFill_list_add seq_list_add PySem.F.slot_list_add PySem.F.entry_list_add (PySem.F.args_list_add_2 _ _) (list_addW l b its.toArray its2.toArray n n2 none none sl sl2 (by rw [List.size_toArray,List.size_toArray];omega)) ⟨e,e2, ?_⟩;have ea:its.toArray ++ its2.toArray=(its ++ its2).toArray:=by simp
 rw [ea];exact⟨.ref _,_,I.lnew (t':=s.toks) (r.append r2) (by rw [List.length_append];omega),rfl,q _ I.fresh⟩
def Bp:D->D->R W
 | .int i,.int j=> .ok (.sh (.int (i + j)))
 | .str x,.str y=>if x.length + y.length<=16777216 then .ok (.sh (.str (x ++ y))) else .no
 | .lst a,.lst b=>if a.length + b.length<=16777216 then .ok (.ow (.lst (a ++ b))) else .no
 |_,_=> .no
theorem Ck:Ea X (binaryOp .Add) Bp:=by
 intro zd s σ H x y v u Q I rx ry h;obtain⟨EX,G,a,b,g,ra,rb,o⟩:=h;cases ra with
 |int i=>
  cases rb with
  |int j=>exact di_1 zd s σ H _ _ _ _ Q I rx ry ⟨i,j,rfl,rfl,Dc o g (.int _)⟩
  |_=>exact False.elim o
 |str x=>
  cases rb with
  |str y=>
   simp only [Bp] at o
   split at o
   ·rename_i hz;exact br_2 zd s σ H _ _ _ _ Q I rx ry ⟨x,y,rfl,rfl,by rw [sizeLine_eq];exact hz,Dc o g (.str _)⟩
   ·exact o.elim
  |_=>exact False.elim o
 |lst h1 r1=>
  cases rb with
  |lst h2 r2=>
   simp only [Bp] at o
   split at o
   ·rename_i hz;exact cx_1 zd s σ H _ _ _ _ Q I rx ry ⟨_,_,_,_,rfl,rfl,g.seq h1,g.seq h2,by rw [r1.length,r2.length,sizeLine_eq];exact hz,v_1 o g (r1.append r2)⟩
   ·exact o.elim
  |_=>exact False.elim o
 |_=>cases rb <;> exact False.elim o
def intD(C:Int->Int->Bool)(f:Int->Int->Int):D->D->R W
 | .int i,.int j=>if C i j=true then .ok (.sh (.int (f i j))) else .no
 |_,_=> .no
theorem ae_2{fn:Value->Value->Sem Value}{C:Int->Int->Bool}{P:Int->Int->Prop}{f:Int->Int->Int}(h:OpR X fn (rI P λi j=> .int (f i j)))(hC:∀i j,C i j=true->P i j):Ea X fn (intD C f):=by
 intro zd s σ H x y v u Q I rx ry q;obtain⟨EX,G,a,b,g,ra,rb,o⟩:=q;cases ra with
 |int i=>
  cases rb with
  |int j=>
   simp only [intD] at o
   split at o
   ·rename_i hc;exact h zd s σ H _ _ _ _ Q I rx ry ⟨i,j,rfl,rfl,hC i j hc,Dc o g (.int _)⟩
   ·exact o.elim
  |_=>exact False.elim o
 |_=>cases rb <;> exact False.elim o
def Ex:D->D->R W:=intD (λ_ _=>true) (λi j=>i - j)
def Ej(i j:Int):Bool:=decide (i.natAbs < 18446744073709551616\/j.natAbs < 18446744073709551616)
def Dd:D->D->R W:=intD Ej (λi j=>i * j)
def divC(_ j:Int):Bool:=decide (0 < j/\j.natAbs < 1361129467683753853853498429727072845824)
def Fx:D->D->R W:=intD divC (λi j=>i / j)
def modC(_ j:Int):Bool:=decide (0 < j)
def Bt:D->D->R W:=intD modC (λi j=>i % j)
def powC(i j:Int):Bool:=decide (0<=j/\j.natAbs<=1000000/\i.natAbs < 18446744073709551616)
def powD:D->D->R W:=intD powC (λi j=>i ^ j.toNat)
theorem v_4:Ea X (binaryOp .Sub) Ex:=ae_2 (P:=λ_ _=>True) (opI λ_ _ _ _ _ _ _ _ q=>sub_int q) λ_ _ _=>trivial
theorem Dr:Ea X (binaryOp .Mult) Dd:=ae_2 di_2 λi j h=>by
 have h:=of_decide_eq_true h;rcases h with h|h
 ·exact .inl ⟨by omega,by omega⟩
 ·exact .inr ⟨by omega,by omega⟩
theorem k_5:Ea X (binaryOp .FloorDiv) Fx:=ae_2 (P:=λ_ j=>0 < j/\j.natAbs < 1361129467683753853853498429727072845824) (opI λi j _ _ _ _ _ hc q=>by
 have h1:(0:Int) < j:=hc.1;have h2:=hc.2;refine floordiv_int (by omega) ?_ (.inl (PyProof.noPylong_of_log2 ?_))
 ·rw [Int.fdiv_eq_ediv_of_nonneg i (by omega)];exact q
 ·have:j.natAbs < 2 ^ 130:=by
   have e:(2:Nat) ^ 130=1361129467683753853853498429727072845824:=by decide
   omega
  have l:j.natAbs.log2 < 130:=(Nat.log2_lt (by omega)).mpr this;omega) λi j h=>of_decide_eq_true h
theorem Cm:Ea X (binaryOp .Mod) Bt:=ae_2 di_3 λi j h=>of_decide_eq_true h
theorem cx_3{i j:Int}(h:powC i j=true):CPow i j:=by
 obtain⟨h1,h2,h3⟩:=of_decide_eq_true h;refine⟨h1,by omega, ?_⟩;have e:(2:Nat) ^ 64=18446744073709551616:=by decide
 omega
theorem by_0:Ea X (binaryOp .Pow) powD:=ae_2 di_4 λi j h=>cx_3 h
def cmpD(f:Int->Int->Bool):D->D->R W
 | .int i,.int j=> .ok (.sh (.bl (f i j)))
 |_,_=> .no
theorem be_1{fn:Value->Value->Sem Value}{f:Int->Int->Bool}(h:OpR X fn (rI0 λi j=> .bl (f i j))):Ea X fn (cmpD f):=by
 intro zd s σ H x y v u Q I rx ry q;obtain⟨EX,G,a,b,g,ra,rb,o⟩:=q;cases ra with
 |int i=>
  cases rb with
  |int j=>exact h zd s σ H _ _ _ _ Q I rx ry ⟨i,j,rfl,rfl,Dc o g (.bl _)⟩
  |_=>exact False.elim o
 |_=>cases rb <;> exact False.elim o
def ltD:D->D->R W:=cmpD λi j=>decide (i < j)
def leD:D->D->R W:=cmpD λi j=>decide (i<=j)
def gtD:D->D->R W:=cmpD λi j=>decide (j < i)
theorem aq_9:Ea X (compareOp .Lt) ltD:=be_1 dq_0
theorem ah_5:Ea X (compareOp .LtE) leD:=be_1 dq_1
theorem cm_0:Ea X (compareOp .Gt) gtD:=be_1 dq_2
mutual
def Dl:D->PyData
 | .non=> .none
 | .bl b=> .bool b
 | .int i=> .int i
 | .str x=> .str x
 | .lst ds=> .list (s_5 ds)
 | .tup ds=> .tuple (s_5 ds)
 | .dic _=> .dict []
 | .exn _ _ _=> .dict []
 | .obj _ _ _=> .dict []
def s_5:List D->List PyData
 | []=> []
 |d::ds=>Dl d::s_5 ds
end
mutual
theorem Has.reads(hK:X.K=K){zd:List (Addr×Obj)}{σ:Sg}{s:Shared}(I:Inv X zd σ H s){G:Hp}(g:Same G H):∀{v:V} {d:D} {u:Value},(Dl d).canLay0=true->Has K G v d->RelV v u->∃as,Reads s.heap u (Dl d) as
 |_,_,_,_,.non,r=>by cases r;exact⟨_,.none⟩
 |_,_,_,_,.bl b,r=>by cases r;exact⟨_,.bool b⟩
 |_,_,_,_,.int i,r=>by obtain⟨t,rfl⟩:=r;exact⟨_,.int i t⟩
 |_,_,_,_,.str x,r=>by obtain⟨t,rfl⟩:=r;exact⟨_,.str x t⟩
 |_,_,_,c,.lst h r,q=>by
  cases q;obtain⟨its,rv,⟨o,n,e,c',_,dat⟩,_⟩:=I.list (by rw [hK];exact g.seq h);obtain⟨as,z⟩:=HasL.reads hK I g c r rv;exact⟨_,.list e c' dat z⟩
 |_,_,_,c,.tup h r,q=>by
  cases q;obtain⟨its,rv,⟨o,e,c',n,dat⟩,_⟩:=I.tuple (by rw [hK];exact Same.tupS g h);obtain⟨as,z⟩:=HasL.reads hK I g c r rv;exact⟨_,.tuple e c' dat z⟩
 |_,_,_,c,.exn0 _ _,_=>absurd c Bool.false_ne_true
 |_,_,_,c,.exn1 _ _ _ _ _,_=>absurd c Bool.false_ne_true
 |_,_,_,c,.dic _ _ _,_=>absurd c Bool.false_ne_true
 |_,_,_,c,.obj _ _ _ _,_=>absurd c Bool.false_ne_true
theorem HasL.reads(hK:X.K=K){zd:List (Addr×Obj)}{σ:Sg}{s:Shared}(I:Inv X zd σ H s){G:Hp}(g:Same G H):∀{vs:List V} {ds:List D} {us:List Value},PyData.canLayAll0 (s_5 ds)=true->HasL K G vs ds->Vals vs us->∃as,ReadsAll s.heap us (s_5 ds) as
 |_,_,_,_,.nil,r=>by cases r;exact⟨_,.nil⟩
 |_,_,_,c,.cons h t,r=>by
  cases r with
  |cons r1 r2=>
   have c':(PyData.canLay0 (Dl _) && PyData.canLayAll0 (s_5 _))=true:=c;rw [Bool.and_eq_true] at c';obtain⟨a1,z1⟩:=Has.reads hK I g c'.1 h r1;obtain⟨a2,z2⟩:=HasL.reads hK I g c'.2 t r2;exact⟨_,.cons z1 z2⟩
end
def eqC(a b:D):Bool:=(Dl a).canLay0 && (Dl b).canLay0 && decide ((Dl a).depth<=60)
def Db(a b:D):Bool:=(Dl a).eqv (Dl b)
def Ec(a b:D):R W:=match a,b with
 | .str x,.str y=> .ok (.sh (.bl (decide (x=y))))
 |a,b=>if eqC a b=true then .ok (.sh (.bl (Db a b))) else .no
def Cn(a b:D):R W:=match a,b with
 | .str x,.str y=> .ok (.sh (.bl (!decide (x=y))))
 |a,b=>if eqC a b=true then .ok (.sh (.bl (!Db a b))) else .no
theorem bj_4(x y:Str):decide (V.str x=V.str y)=decide (x=y):=by
 by_cases e:x=y
 ·subst e;simp
 ·rw [decide_eq_false e,decide_eq_false (λz=>e (by injection z))]
theorem q_7(hu:X.A.units + 64 < cLine):Ea X (compareOp .Eq) Ec:=by
 intro zd s σ H x y v u Q I rx ry q;obtain⟨EX,G,a,b,g,ra,rb,o⟩:=q;unfold Ec at o
 split at o
 ·rename_i x y;cases ra;cases rb;exact dp_8 zd s σ H _ _ _ _ Q I rx ry ⟨rfl,by rw [bj_4];exact Dc o g (.bl _)⟩
 ·split at o
  ·rename_i hc;unfold eqC at hc;rw [Bool.and_eq_true,Bool.and_eq_true] at hc;obtain⟨⟨h1,h2⟩,h3⟩:=hc;have h3:=of_decide_eq_true h3;obtain⟨as,za⟩:=Has.reads rfl I g h1 ra rx;obtain⟨bs,zb⟩:=Has.reads rfl I g h2 rb ry;refine PySem.SeqAt.compareEq_reads za zb h1 h2 ?_ ⟨.bl _,H,I,rfl,Dc o g (.bl _)⟩;have:=Nat.min_le_left (Dl a).depth (Dl b).depth;omega
  ·exact o.elim
theorem x_2(hu:X.A.units + 64 < cLine):Ea X (compareOp .NotEq) Cn:=by
 intro zd s σ H x y v u Q I rx ry q;obtain⟨EX,G,a,b,g,ra,rb,o⟩:=q;unfold Cn at o
 split at o
 ·rename_i x y;cases ra;cases rb;exact dp_9 zd s σ H _ _ _ _ Q I rx ry ⟨rfl,by rw [bj_4];exact Dc o g (.bl _)⟩
 ·split at o
  ·rename_i hc;unfold eqC at hc;rw [Bool.and_eq_true,Bool.and_eq_true] at hc;obtain⟨⟨h1,h2⟩,h3⟩:=hc;have h3:=of_decide_eq_true h3;obtain⟨as,za⟩:=Has.reads rfl I g h1 ra rx;obtain⟨bs,zb⟩:=Has.reads rfl I g h2 rb ry;refine PySem.SeqAt.compareNe_reads za zb h1 h2 ?_ ⟨.bl _,H,I,rfl,Dc o g (.bl _)⟩;have:=Nat.min_le_left (Dl a).depth (Dl b).depth;omega
  ·exact o.elim
def Bn:D->Bool
 | .non=>true
 | .bl _=>true
 | .int _=>true
 | .str _=>true
 |_=>false
def flV:D->V
 | .bl b=> .bl b
 | .int i=> .int i
 | .str x=> .str x
 |_=> .non
theorem Has.fl{G:Hp}{d:D}(r:Has K G v d)(f:Bn d=true):v=flV d/\Fg v=true:=by
 cases r with
 |non=>exact⟨rfl,rfl⟩
 |bl b=>exact⟨rfl,rfl⟩
 |int i=>exact⟨rfl,rfl⟩
 |str x=>exact⟨rfl,rfl⟩
 |lst _ _=>cases f
 |tup _ _=>cases f
 |exn0 _ _=>cases f
 |exn1 _ _ _ _ _=>cases f
 |dic _ _ _=>cases f
 |obj _ _ _ _=>cases f
theorem Has.ofFl{G G':Hp}{d:D}(r:Has K G v d)(f:Bn d=true):Has K G' v d:=by
 cases r with
 |non=>exact .non
 |bl b=>exact .bl b
 |int i=>exact .int i
 |str x=>exact .str x
 |lst _ _=>cases f
 |tup _ _=>cases f
 |exn0 _ _=>cases f
 |exn1 _ _ _ _ _=>cases f
 |dic _ _ _=>cases f
 |obj _ _ _ _=>cases f
theorem HasL.fl{G:Hp}:∀{vs:List V} {ds:List D},HasL K G vs ds->ds.all Bn=true->vs=ds.map flV/\vs.all Fg=true
 |_,_,.nil,_=>⟨rfl,rfl⟩
 |_,_,.cons h r,f=>by
  rw [List.all_cons,Bool.and_eq_true] at f;obtain⟨e1,e2⟩:=h.fl f.1;obtain⟨e3,e4⟩:=HasL.fl r f.2;exact⟨by rw [List.map_cons,<-e1,<-e3],by rw [List.all_cons,e2,e4];rfl⟩
def eqF(a b:D):Bool:=eqV (flV a) (flV b)
def Ek(d:D)(ds:List D):Bool:=ds.any λy=>eqF y d
theorem by_1(d:D)(ds:List D):inV (flV d) (ds.map flV)=Ek d ds:=by
 unfold inV Ek;rw [List.any_map];rfl
def inD(neg:Bool):D->D->R W
 | .str i,.str j=> .ok (.sh (.bl (if neg then !(!(Builtin.Str.occurrences j i 0 j.length 1).isEmpty) else !(Builtin.Str.occurrences j i 0 j.length 1).isEmpty)))
 |d,.lst ds=>if(Bn d && ds.all Bn)=true then .ok (.sh (.bl (if neg then !Ek d ds else Ek d ds))) else .no
 |d,.tup ds=>if(Bn d && ds.all Bn)=true then .ok (.sh (.bl (if neg then !Ek d ds else Ek d ds))) else .no
 |_,_=> .no
theorem cx_5{EX:EXT}{G H:Hp}{x y:V}{d:D}{e:D}{Q:VK}{neg:Bool}(g:Same G H)(ra:Has X.K G x d)(rb:Has X.K G y e)(hd:∀i j,d=.str i->e=.str j->False)(o:Out X.K EX G H (inD neg d e) Q):rIn X.K neg x y H Q:=by
 cases rb with
 |lst h r=>
  rename_i ds;have o':Out X.K EX G H (if(Bn d && ds.all Bn)=true then .ok (.sh (.bl (if neg then !Ek d ds else Ek d ds))) else .no) Q:=by
   cases d <;> exact o
  split at o'
  ·rename_i f;rw [Bool.and_eq_true] at f;obtain⟨e1,e2⟩:=ra.fl f.1;obtain⟨e3,e4⟩:=r.fl f.2;refine⟨_,_,rfl,.inl (g.seq h),e2,e4, ?_⟩;rw [e1,e3,by_1];exact Dc o' g (.bl _)
  ·exact o'.elim
 |tup h r=>
  rename_i ds;have o':Out X.K EX G H (if(Bn d && ds.all Bn)=true then .ok (.sh (.bl (if neg then !Ek d ds else Ek d ds))) else .no) Q:=by
   cases d <;> exact o
  split at o'
  ·rename_i f;rw [Bool.and_eq_true] at f;obtain⟨e1,e2⟩:=ra.fl f.1;obtain⟨e3,e4⟩:=r.fl f.2;refine⟨_,_,rfl,.inr (Same.tupS g h),e2,e4, ?_⟩;rw [e1,e3,by_1];exact Dc o' g (.bl _)
  ·exact o'.elim
 |str j=>
  cases d with
  |str i=>exact(hd i j rfl rfl).elim
  |_=>exact False.elim o
 |_=>cases d <;> exact False.elim o
theorem dk_3:Ea X (compareOp .In) (inD false):=by
 intro zd s σ H x y v u Q I rx ry q;obtain⟨EX,G,a,b,g,ra,rb,o⟩:=q
 by_cases hs:∃i j,a=.str i/\b=.str j
 ·obtain⟨i,j,rfl,rfl⟩:=hs;cases ra;cases rb;exact cd_6 zd s σ H _ _ _ _ Q I rx ry ⟨i,j,rfl,rfl,Dc o g (.bl _)⟩
 ·exact ce_3 zd s σ H _ _ _ _ Q I rx ry (cx_5 g ra rb (λi j e1 e2=>hs ⟨i,j,e1,e2⟩) o)
def Dp:List D->R W
 | [.str x]=>if x.length<=16777216 then .ok (.sh (.int x.length)) else .no
 | [.lst ds]=> .ok (.sh (.int ds.length))
 | [.tup ds]=> .ok (.sh (.int ds.length))
 |_=> .no
theorem j_9:x_0 X (.builtin "len") Dp:=by
 intro zd s σ H vs us Q I rv q;obtain⟨EX,G,ds,g,r,o⟩:=q;cases r with
 |nil=>exact False.elim o
 |cons h t=>
  cases t with
  |cons _ _=>cases h <;> exact False.elim o
  |nil=>
   cases h with
   |str x=>
    simp only [Dp] at o
    split at o
    ·rename_i hz;exact bd_3 zd s σ H _ _ Q I rv ⟨x,rfl,by rw [sizeLine_eq];exact hz,Dc o g (.int _)⟩
    ·exact o.elim
   |lst h r=>exact ad_8 zd s σ H _ _ Q I rv ⟨_,_,rfl,.inl (g.seq h),by rw [r.length];exact Dc o g (.int _)⟩
   |tup h r=>exact ad_8 zd s σ H _ _ Q I rv ⟨_,_,rfl,.inr (Same.tupS g h),by rw [r.length];exact Dc o g (.int _)⟩
   |_=>exact False.elim o
def maxD:List D->R W
 | [.int i,.int j]=> .ok (.sh (.int (if j > i then j else i)))
 |_=> .no
def minD:List D->R W
 | [.int i,.int j]=> .ok (.sh (.int (if j < i then j else i)))
 |_=> .no
theorem bj_6{G:Hp}{vs:List V}{ds:List D}(r:HasL K G vs ds){P:Prop}(h:∀i j,vs= [.int i,.int j]->ds= [.int i,.int j]->P)(n:(∀i j,ds≠ [.int i,.int j])->P):P:=by
 by_cases e:∃i j,ds= [.int i,.int j]
 ·obtain⟨i,j,rfl⟩:=e;cases r with
  |cons a t=>
   cases t with
   |cons b t2=>
    cases t2;cases a;cases b;exact h i j rfl rfl
 ·exact n λi j z=>e ⟨i,j,z⟩
theorem cx_6{ds:List D}(h:∀i j,ds≠ [.int i,.int j]):maxD ds=.no:=by
 unfold maxD
 split
 ·rename_i i j;exact absurd rfl (h i j)
 ·rfl
theorem cx_7{ds:List D}(h:∀i j,ds≠ [.int i,.int j]):minD ds=.no:=by
 unfold minD
 split
 ·rename_i i j;exact absurd rfl (h i j)
 ·rfl
theorem ah_7(hc:X.calm=true):x_0 X (.builtin "max") maxD:=by
 intro zd s σ H vs us Q I rv q;obtain⟨EX,G,ds,g,r,o⟩:=q;refine bj_6 r (λi j e1 e2=> ?_) λn=> ?_
 ·subst e1 e2;exact cd_7 hc zd s σ H _ _ Q I rv ⟨i,j,rfl,Dc o g (.int _)⟩
 ·rw [cx_6 n] at o;exact o.elim
theorem cf_3(hc:X.calm=true):x_0 X (.builtin "min") minD:=by
 intro zd s σ H vs us Q I rv q;obtain⟨EX,G,ds,g,r,o⟩:=q;refine bj_6 r (λi j e1 e2=> ?_) λn=> ?_
 ·subst e1 e2;exact cd_8 hc zd s σ H _ _ Q I rv ⟨i,j,rfl,Dc o g (.int _)⟩
 ·rw [cx_7 n] at o;exact o.elim
def ar_0:List D->R W
 | [.lst ds]=> .ok (.ow (.lst ds))
 | [.tup ds]=> .ok (.ow (.lst ds))
 |_=> .no
theorem x_3:x_0 X (.type "list") ar_0:=by
 intro zd s σ H vs us Q I rv q;obtain⟨EX,G,ds,g,r,o⟩:=q;cases r with
 |nil=>exact False.elim o
 |cons h t=>
  cases t with
  |cons _ _=>cases h <;> exact False.elim o
  |nil=>
   cases h with
   |lst h r=>exact ad_9 zd s σ H _ _ Q I rv ⟨_,_,rfl,.inl (g.seq h),v_1 o g r⟩
   |tup h r=>exact ad_9 zd s σ H _ _ Q I rv ⟨_,_,rfl,.inr (Same.tupS g h),v_1 o g r⟩
   |_=>exact False.elim o
def cm_2:List D->R W
 | [.lst ds]=> .ok (.sh (.tup ds))
 | [.tup ds]=> .ok (.sh (.tup ds))
 |_=> .no
theorem bs_5:x_0 X (.type "tuple") cm_2:=by
 intro zd s σ H vs us Q I rv q;obtain⟨EX,G,ds,g,r,o⟩:=q;cases r with
 |nil=>exact False.elim o
 |cons h t=>
  cases t with
  |cons _ _=>cases h <;> exact False.elim o
  |nil=>
   cases h with
   |lst h r=>
    refine ab_4 zd s σ H _ _ Q I rv ⟨_,_,rfl,.inl ⟨g.seq h,λp hp=> ?_⟩⟩;exact o (.ref p) _ _ (Step.new g hp _) (.tup (SqT.of Ba) (r.mono (g_4 (g.free hp) _)))
   |tup h r=>exact ab_4 zd s σ H _ _ Q I rv ⟨_,_,rfl,.inr ⟨Same.tupS g h,Dc o g (.tup h r)⟩⟩
   |_=>exact False.elim o
end
structure RoomC(c:Bool)(k:Nat)(A:Around):Prop where
 hd:c=true->A.handled=none
 dp:A.depth + 3 * k + 5 < recursionLimit
 un:A.units + 16 * k + 200 < cLine
theorem RoomC.mono{c:Bool}{j k:Nat}{A:Around}(r:RoomC c k A)(h:j<=k):RoomC c j A:=⟨r.hd,by have:=r.dp;omega,by have:=r.un;omega⟩
theorem RoomC.deeper{c:Bool}{k:Nat}{A:Around}(r:RoomC c (k + 1) A)(env:Env):RoomC c k (A.deeper env):=
 ⟨r.hd,by have:=r.dp;show A.depth + 1 + 3 * k + 5 < _;omega,by have:=r.un;show A.units + 3 + 16 * k + 200 < _;omega⟩
theorem RoomC.make{c:Bool}{k:Nat}{A:Around}(r:RoomC c (k + 1) A)(C:Addr)(us:List Value)(kw:List (Str×Value)):RoomC c k (A.under (.builtin "type.__call__" ⟨.ref C::us,kw⟩)):=
 ⟨r.hd,by have:=r.dp;rw [br_7];omega,by have:=r.un;rw [br_8];omega⟩
theorem RoomC.loose{c:Bool}{k:Nat}{A:Around}(r:RoomC c k A):RoomC false k A:=⟨λz=>absurd z Bool.false_ne_true,r.dp,r.un⟩
theorem RoomC.mark{c:Bool}{k:Nat}{A:Around}(r:RoomC c k A)(h:Option Value):RoomC false k (A.mark h):=⟨λz=>absurd z Bool.false_ne_true,r.dp,r.un⟩
theorem RoomC.of{k:Nat}{A:Around}(r:Room k A):RoomC true k A:=⟨λ_=>r.hd,r.dp,r.un⟩
structure FnX(P:Program)(w:World)(K:Frag)(mg:Str->Option Value)(base:Heap)(c:Bool)(k:Nat)(f:Addr)(fd:FuncData)(ps:List Str)(sp:Sp):Prop where
 len:∀vs H Q E,sp vs H Q E->vs.length=ps.length
 run:∀(A:Around) (outer:List Env) (s:Shared) (H:Hp) (args:Args) (us:List Value) (vs:List V) (Q:VK) (E:XK),RoomC c k A->Env0 P w K mg base A outer s H->BindsTo s fd args (ps.zip us)->Vals vs us->sp vs H Q E->
  codeAny (model P w) A (.call (.ref f) args) (CR (CXr P w) outer P w H s Q E) s
abbrev cxN(c:Bool)(P:Program)(w:World)(K:Frag)(mg:Str->Option Value)(base:Heap)(N:List Str)(qual:Str)(scope:Scope)(f:Addr)(cd:Value)(A:Around)(outer:List Env)(s:Shared)(H:Hp)(E:XK):Cx:=
 {Et (CXr P w) P w K mg base N qual scope f cd A outer s H E with calm:=c}
theorem bs_6{c:Bool}{P:Program}{w:World}{N ps:List Str}{qual:Str}{scope:Scope}{f:Addr}{cd:Value}{A:Around}{outer:List Env}{s s1:Shared}{E:XK}{vs:List V}
  (S:FnScope N ps scope) (hd:c=true->A.handled=none) (e0:Env0 P w K mg base A outer s H) (hl:vs.length=ps.length) (r:Vals vs us)
  (x:InCallC s s.heap.objs.size (bindL (envOfC qual scope s.heap.objs.size f cd).kindOf (ps.zip us) λ_=>none) (cellsFrom (s.heap.objs.size + 1) scope.names []) (bindC (envOfC qual scope s.heap.objs.size f cd).kindOf (ps.zip us) λ_=>none) s1):
  Inv (cxN c P w K mg base N qual scope f cd A outer s H E) [] (start N vs) H s1:=by
 have I:=ce_1 (CX:=CXr P w) (E:=E) (qual:=qual) (f:=f) (cd:=cd) (A:={A with handled:=none}) S rfl ⟨e0.frames,e0.mod,e0.bs,e0.bsz,e0.funs,e0.frf,e0.hok,e0.bare⟩ hl r x;exact⟨⟨I.ok.mod,I.ok.kind,I.ok.glob,I.ok.blt,I.ok.above,I.ok.inj,I.ok.has,I.ok.cab,hd,Around.frames_deeper e0.frames,I.ok.stk,I.ok.exf,I.ok.bs,I.ok.bsz,I.ok.noex,I.ok.exfs,I.ok.funs,I.ok.frf⟩,
  I.os,I.bare,I.base,I.loc,I.cell,I.free,I.freeC,I.pin,I.hok,I.len⟩
theorem dk_4{c:Bool}{P:Program}{w:World}{k:Nat}{f:Addr}{name qual:Str}{params:Arguments}{body:List Stmt}{scope:Scope}{dV kV doc pm zq ct oc:Value}{an od:Option Addr}
  {osl:Array (Option Value)} {N ps:List Str} {sp:Sp} (lk:K.lookup f=some ⟨oc,od,.func (fnOf name qual params body scope dV kV doc pm an zq ct),osl⟩) (hcd:codeIn K zq qual=true) (S:FnScope N ps scope)
  (len:∀vs H Q E,sp vs H Q E->vs.length=ps.length)
  (zj:∀(A:Around) (outer:List Env) (s:Shared) (H:Hp) (vs:List V) (Q:VK) (E:XK),RoomC c k (A.deeper (envOfC qual scope s.heap.objs.size f zq))->sp vs H Q E->
   ∃t,PSs (cxN c P w K mg base N qual scope f zq A outer s H E) body t/\t {nx:=λ_ H'=>Q .non H',rt:=Q} (start N vs) H):
  FnX P w K mg base c (k + 1) f (fnOf name qual params body scope dV kV doc pm an zq ct) ps sp:=by
 refine⟨len,λA outer s H args us vs Q E hr e0 hb r hsp=> ?_⟩;have hl:=len _ _ _ _ hsp;have KX:K.In s.heap:=e0.mod.kin.keeps λb o e=>(e0.bs b o e).1;have lim:s.heap.NoLimit:=e0.mod.nolimit.keeps λb o e=>(e0.bs b o e).1;have ck:∀y∈ps.zip us,scope.names.lookup y.1=some .local\/(scope.names.lookup y.1=some .cell/\((cellsFrom (s.heap.objs.size + 1) scope.names []).lookup y.1).isSome=true):=λ⟨n,v⟩ hy=>by
  rcases S.par n (List.of_mem_zip hy).1 with q|q
  ·exact .inl q
  ·exact .inr ⟨q,cellsFrom_some _ _ _ (.inl q)⟩
 have dp:A.depth < recursionLimit:=by have:=hr.dp;omega
 refine codeAny_call_function dp (KX _ _ lk) rfl S.co S.gen rfl (codeRec_of KX hcd) (hb _ _ _ _ ?_);refine wpAny_newFunctionEnv_cells S.kind ck λenv he s1 x=> ?_;subst he;refine⟨lim.keeps x.toInCall.keep,codeAny_func ?_⟩;obtain⟨t,ht,hq⟩:=zj A outer s H vs Q E (hr.deeper _) hsp;have I:Inv (cxN c P w K mg base N qual scope f zq A outer s H E) [] (start N vs) H s1:=bs_6 S hr.hd e0 hl r x;refine wpAny_mono (ht [] s1 (start N vs) H _ I hq) (λfl s' hs=> ?_) λe s' hs=>hs;have fin:∀{σ':Sg} {H':Hp} {v:V} {u:Value},Inv (cxN c P w K mg base N qual scope f zq A outer s H E) [] σ' H' s'->RelV v u->Q v H'->CE outer P w H s Q u s':=
  λ{σ' H' v u} J rv q=>⟨v,H',J.os,J.bare,J.base,J.hok,rv,q⟩
 cases fl with
 |ret u=>
  obtain⟨v,σ',H',J,rv,q⟩:=hs;exact fin J rv q
 |next=>
  obtain⟨σ',H',J,q⟩:=hs;exact fin (v:=V.non) (u:=Value.none) J rfl q
 |brk=>
  obtain⟨_,_,_,q⟩:=hs;exact False.elim q
 |cont=>
  obtain⟨_,_,_,q⟩:=hs;exact False.elim q
theorem Fun.okX{c:Bool}{P:Program}{w:World}{x qual:Str}{st:Stmt}{f:Addr}{N ps:List Str}{k:Nat}{sp:Sp}(F:Fun K x qual st f fd)(S:FnScope N ps (Ci st))(len:∀vs H Q E,sp vs H Q E->vs.length=ps.length)
  (zj:∀(zq:Value) (A:Around) (outer:List Env) (s:Shared) (H:Hp) (vs:List V) (Q:VK) (E:XK),RoomC c k (A.deeper (envOfC qual (Ci st) s.heap.objs.size f zq))->sp vs H Q E->
   ∃t,PSs (cxN c P w K mg base N qual (Ci st) f zq A outer s H E) (Fk st) t/\t {nx:=λ_ H'=>Q .non H',rt:=Q} (start N vs) H):FnX P w K mg base c (k + 1) f fd ps sp:=by
 obtain⟨oc,od,kV,doc,pm,an,zq,ct,osl,rfl,lk,hcd⟩:=F.ex;exact dk_4 lk hcd S len λA outer s H vs Q E hr hsp=>zj zq A outer s H vs Q E hr hsp
def Lk(X:Cx)(EX:Ay):Prop:=∀(zd:List (Addr×Obj)) (σ:Sg) (H:Hp) (s:Shared) (e:Value) (s':Shared),Inv X zd σ H s->CXr X.prog X.w X.stack H s (EXE X.K (EX σ)) e s'->X.xe e s'
theorem ae_3:Lk X Bq:=λzd σ H s e s' I c=>by
 obtain⟨a,C,dx,T,H',_,_,_,_,_,_,_,_,_,_,x,G,_,_,q⟩:=c;exact False.elim q
theorem bs_7{c:Bool}{P:Program}{w:World}{N:List Str}{qual:Str}{scope:Scope}{f:Addr}{cd:Value}{A:Around}{outer:List Env}{s:Shared}{E:XK}:
  Lk (cxN c P w K mg base N qual scope f cd A outer s H E) (λ_=>EXof K E):=λzd σ H s e s' I h=>ce_6 I h λcls dx H' q=>q.of
def Ca(K:Frag)(n:Nat)(F:List D->R W):Sp:=λvs H Q E=>vs.length=n/\∃G ds,Same G H/\HasL K G vs ds/\Out K (EXof K E) G H (F ds) Q
def Bj(n:Nat)(F:List D->R W)(fa:FA):FE:=λ δ=>(fa δ).bind λds=>if ds.length=n then F ds else .no
def FnD(P:Program)(w:World)(K:Frag)(mg:Str->Option Value)(base:Heap)(c:Bool)(x:Str)(k:Nat)(ps:List Str)(F:List D->R W):Prop:=
 ∃f fd,FnX P w K mg base c k f fd ps (Ca K ps.length F)/\mg x=some (.ref f)/\keepIn K (.ref f)=true/\Binds K fd ps []
section
variable{X:Cx}{EX:Ay}{e:Expr}{es:List Expr}{fa:FA}{x:Str}{pp pos:Pos}{c:Bool}{k k':Nat}{ps:List Str}{F:List D->R W}
theorem ao_0{zd:List (Addr×Obj)}{σ:Sg}{s:Shared}{Q:VK}{vs:List V}{f:Addr}{sp:Sp}(F:FnX X.prog X.w X.K X.mg X.base c k f fd ps sp)(hr:RoomC c k X.A)(hb:Binds X.K fd ps [])(lk:Lk X EX)
  (I:Inv X zd σ H s) (r:Vals vs us) (h:sp vs H Q (EXE X.K (EX σ))):wpAny (model X.prog X.w) X.A (call (.ref f) us) (EP X zd σ Q) X.xe s:=by
 have hl:us.length=ps.length:=by rw [<-r.length];exact F.len _ _ _ _ h
 have hb':=hb s us I.kIn (by rw [List.append_nil];exact hl);rw [List.append_nil] at hb';refine wpAny_call (codeAny_mono (F.run X.A X.stack s H ⟨us,[]⟩ us vs Q _ hr I.env0 hb' r h) λr s' hq=> ?_);cases r with
 |error e=>exact lk zd σ H s e s' I hq
 |ok fl=>
  cases fl with
  |ret u=>exact I.after hq
  |next=>exact False.elim hq
  |brk=>exact False.elim hq
  |cont=>exact False.elim hq
theorem Cb(hr:RoomC c k' X.A)(lk:Lk X EX)(h:FnD X.prog X.w X.K X.mg X.base c x k ps F)(ha:AD X EX (e::es) fa)(hk:k<=k':=by decide)(hg:Gl X x:=by rfl)(hdb:(x ==("__debug__" :Str))=false:=by decide)
  (he:starEach (e::es) X.env=(false,eval e X.env)::starEach es X.env:=by rfl) (hpl:(backTo pos (starEach es X.env)).any (·.1)=false:=by rfl):
  ED X EX (.Call (.Name x pp) (e::es) [] pos) (Bj ps.length F fa):=by
 obtain⟨f,fd,ok,hm,kp,hb⟩:=h;intro zd s σ H Q I q;obtain⟨G,δ,g0,s0,o⟩:=q;refine wpAny_Call_Name_kw (p_6 I hg hm ?_ hdb);have ta:tDa X.K EX fa σ H λvs H1=>Ca X.K ps.length F vs H1 Q (EXE X.K (EX σ)):=by
  refine tDa.seq g0 s0 o λds vs G' H' _ st r o'=> ?_
  split at o'
  ·rename_i hl;refine⟨by rw [r.length];exact hl,G',ds,st.gh,r, ?_⟩;cases q:F ds with
   |ok w=>rw [q] at o';exact o'
   |ex x=>rw [q] at o';exact EXof.in o'
   |no=>rw [q] at o';exact o'.elim
  ·exact o'.elim
 refine callWith_K (h₀:=X.base) I.ok.mod.kin kp (Aw (ha pos zd s σ H _ I ta) λus s1 ⟨vs,H1,I1,r,q⟩=>⟨I1.kIn, ?_⟩) he hpl;exact ao_0 ok (hr.mono hk) hb lk I1 r q
end
inductive Sl where
 |no|sh (d:D)|ow (d:D)|tr (t:Tn)|lk (d:D)|lt (t:Tn)
abbrev SE:=List Sl
inductive Fl where
 |nx (Δ:SE)|rt (w:W)|bk (Δ:SE)|ct (Δ:SE)|ex (x:Xn) (Δ:SE)|rv (d:D) (Δ:SE)|no
abbrev FS:=SE->Fl
def Sl.pub:Sl->Option D
 | .sh d=>some d
 |_=>none
def Sl.any:Sl->Option D
 | .sh d=>some d
 | .ow d=>some d
 | .tr t=>some t.d
 | .lk d=>some d
 | .lt t=>some t.d
 | .no=>none
def Sl.give:Sl->Sl
 | .ow d=> .sh d
 | .tr t=> .sh t.d
 |s=>s
def Sl.own:Sl->Option Tn
 | .ow d=>some (Tn.of d)
 | .tr t=>some t
 | .lk d=>some (Tn.of d)
 | .lt t=>some t
 |_=>none
def As(Δ:SE):DE:=Δ.map Sl.pub
def Bb(Δ:SE):DE:=Δ.map Sl.any
def gall(Δ:SE):SE:=Δ.map Sl.give
abbrev OS:=Nat->AS
structure HB where
 h:Hp
 b:Nat->Addr
structure Ev(K:Frag)(H0:HB)(G0 G H:Hp)(σ:Sg)(Δ:SE)(A:OS):Prop where
 st:Step G0 H0.h G H
 len:σ.length=Δ.length
 sh:∀(i:Nat) (d:D),Δ[i]? =some (.sh d)->∃v,σ[i]? =some (some v)/\Has K G v d
 ow:∀(i:Nat) (s:Sl) (t:Tn),Δ[i]? =some s->s.own=some t->∃v,σ[i]? =some (some v)/\Ow K G H v t (A i)
 out:∀(i:Nat) (a:Addr),A i a->G a=none/\H0.h a=none/\H a≠none
 dj:∀(i j:Nat) (a:Addr),A i a->A j a->i=j
 lk:∀(i:Nat) (d:D),Δ[i]? =some (.lk d)->σ[i]? =some (some (.ref (H0.b i)))
 lt:∀(i:Nat) (t:Tn),Δ[i]? =some (.lt t)->σ[i]? =some (some (.ref (H0.b i)))
def x_4(G H:Hp)(A:OS):Hp:=Cv G H λb=>∃i,A i b
structure MStep(S:AS)(G H G' H':Hp):Prop where
 hh:∀b o,¬S b->H b=some o->H' b=some o
 al:∀b,H b≠none->H' b≠none
 gh:Same G' H'
 gg:Same G G'
 nw:∀b,G b=none->H b≠none->G' b=none
structure MStep2(S:AS)(G H G' H':Hp):Prop where
 hh:∀b o,¬S b->H b=some o->H' b=some o
 gh:Same G' H'
 gg:Same G G'
 nw:∀b,¬S b->G b=none->H b≠none->G' b=none
theorem MStep.weak{S:AS}{G H G' H':Hp}(m:MStep S G H G' H'):MStep2 S G H G' H':=⟨m.hh,m.gh,m.gg,λb _=>m.nw b⟩
theorem Step.m{S:AS}{G H G' H':Hp}(s:Step G H G' H'):MStep S G H G' H':=⟨λb o _ q=>s.hh b o q,λb n z=>n (s.hh.free z),s.gh,s.gg,s.nw⟩
theorem MStep.andThen{S:AS}{G H G1 H1 G2 H2:Hp}(a:MStep S G H G1 H1)(b:Step G1 H1 G2 H2):MStep S G H G2 H2:=
 ⟨λc o n q=>b.hh c o (a.hh c o n q),λc n z=>a.al c n (b.hh.free z),b.gh,a.gg.trans b.gg,λc e n=>b.nw c (a.nw c e n) (a.al c n)⟩
theorem MStep.write{S:AS}{G H:Hp}(g:Same G H){a:Addr}(hs:S a)(n:G a=none)(o:HO):MStep S G H G (L2.upd H a o):=
 ⟨λb o' nb q=>by rw [An (λz=>nb (by rw [z];exact hs))];exact q,λb nb=>by
  by_cases z:b=a
  ·subst z;rw [Ba];simp
  ·rw [An z];exact nb,λb o' q=>by
  by_cases z:b=a
  ·subst z;rw [n] at q;cases q
  ·rw [An z];exact g b o' q,Same.refl _,λ_ e _=>e⟩
def Fm(A:OS)(i:Nat)(S:AS):OS:=λj=>if j=i then S else A j
theorem i_0{A:OS}{i:Nat}{S:AS}:Fm A i S i=S:=if_pos rfl
theorem h_6{A:OS}{i j:Nat}{S:AS}(h:j≠i):Fm A i S j=A j:=if_neg h
section
variable{K:Frag}{H0:HB}{G0 G H G' H':Hp}{σ:Sg}{Δ:SE}{A:OS}
theorem Ev.gsh(E:Ev K H0 G0 G H σ Δ A):HasS K G σ (As Δ):=⟨by rw [E.len];unfold As;rw [List.length_map],λi d q=>by
 unfold As at q;rw [List.getElem?_map] at q;cases e:Δ[i]? with
 |none=>rw [e] at q;cases q
 |some z=>
  rw [e] at q;cases z with
  |sh d'=>cases q;exact E.sh i d e
  |_=>cases q⟩
theorem Ev.aH(E:Ev K H0 G0 G H σ Δ A):Same (x_4 G H A) H:=λb o q=>by
 unfold x_4 Cv at q
 split at q
 ·exact q
 ·exact E.st.gh b o q
theorem Ev.aG(E:Ev K H0 G0 G H σ Δ A):Same G (x_4 G H A):=λb o q=>by
 unfold x_4 Cv
 split
 ·rename_i hb;obtain⟨i,hb⟩:=hb;rw [(E.out i b hb).1] at q;cases q
 ·exact q
theorem Ev.aStep(E:Ev K H0 G0 G H σ Δ A):Step G0 H0.h (x_4 G H A) H:=
 ⟨E.st.hh,E.aH,E.st.gg.trans E.aG,λb n z=>by
  unfold x_4 Cv
  split
  ·rename_i hb;obtain⟨i,hb⟩:=hb;exact absurd (E.out i b hb).2.1 z
  ·exact E.st.nw b n z⟩
theorem Ev.aIn{A:OS}{G H:Hp}{i:Nat}{b:Addr}{o:HO}(hb:A i b)(q:H b=some o):x_4 G H A b=some o:=by
 unfold x_4 Cv;rw [if_pos ⟨i,hb⟩];exact q
theorem Ev.gall(E:Ev K H0 G0 G H σ Δ A):HasS K (x_4 G H A) σ (Bb Δ):=⟨by rw [E.len];unfold Bb;rw [List.length_map],λi d q=>by
 unfold Bb at q;rw [List.getElem?_map] at q;cases e:Δ[i]? with
 |none=>rw [e] at q;cases q
 |some z=>
  rw [e] at q;cases z with
  |sh d'=>
   cases q;obtain⟨v,e1,r⟩:=E.sh i d e;exact⟨v,e1,r.mono E.aG⟩
  |ow d'=>
   cases q;obtain⟨v,e1,t⟩:=E.ow i _ _ e rfl;have r:=t.has E.aG λb o hb q=>Ev.aIn hb q;rw [Tn.of_d] at r;exact⟨v,e1,r⟩
  |tr t'=>
   cases q;obtain⟨v,e1,t⟩:=E.ow i _ _ e rfl;exact⟨v,e1,t.has E.aG λb o hb q=>Ev.aIn hb q⟩
  |lk d'=>
   cases q;obtain⟨v,e1,t⟩:=E.ow i _ _ e rfl;have r:=t.has E.aG λb o hb q=>Ev.aIn hb q;rw [Tn.of_d] at r;exact⟨v,e1,r⟩
  |lt t'=>
   cases q;obtain⟨v,e1,t⟩:=E.ow i _ _ e rfl;exact⟨v,e1,t.has E.aG λb o hb q=>Ev.aIn hb q⟩
  |no=>cases q⟩
theorem Ev.grow(E:Ev K H0 G0 G H σ Δ A)(s:Step G H G' H'):Ev K H0 G0 G' H' σ Δ A:=
 ⟨E.st.trans s,E.len,λi d e=>let⟨v,e1,r⟩:=E.sh i d e;⟨v,e1,r.mono s.gg⟩,λi z d e z'=>let⟨v,e1,t⟩:=E.ow i z d e z';⟨v,e1,t.mono s.gg (λb o _ q=>s.hh b o q) λ_ q=>q⟩,
  λi a ha=>let⟨h1,h2,h3⟩:=E.out i a ha;⟨s.nw a h1 h3,h2,λz=>h3 (s.hh.free z)⟩,E.dj,E.lk,E.lt⟩
theorem Ev.keep(E:Ev K H0 G0 G H σ Δ A)(s:Same H H'):Ev K H0 G0 G H' σ Δ A:=
 E.grow ⟨s,E.st.gh.trans s,Same.refl _,λ_ n _=>n⟩
theorem Fd{α:Type}{l:List α}{i j:Nat}{x y:α}(h:(l.set i x)[j]? =some y):(i=j/\y=x)\/(i≠j/\l[j]? =some y):=by
 by_cases e:i=j
 ·subst e;rw [List.getElem?_set] at h;simp only [if_true] at h
  split at h
  ·exact .inl ⟨rfl,(Option.some.inj h).symm⟩
  ·cases h
 ·rw [List.getElem?_set_ne e] at h;exact .inr ⟨e,h⟩
theorem bs_8{α:Type}{l:List α}{i:Nat}{x y:α}(h:(l.set i x)[i]? =some y):i < l.length:=by
 by_cases hh:i < l.length
 ·exact hh
 ·rw [List.getElem?_eq_none (by rw [List.length_set];omega)] at h;cases h
theorem Ev.put(E:Ev K H0 G0 G H σ Δ A){i:Nat}{d:D}(r:Has K G v d):Ev K H0 G0 G H (σ.set i (some v)) (Δ.set i (.sh d)) A:=by
 refine⟨E.st,by rw [List.length_set,List.length_set];exact E.len,λj d' e=> ?_,λj z d' e zo=> ?_,E.out,E.dj,λj d' e=> ?_,λj d' e=> ?_⟩
 ·rcases Fd e with⟨rfl,q⟩|⟨n,q⟩
  ·cases q;exact⟨v,by rw [List.getElem?_set_self (by rw [E.len];exact bs_8 e)],r⟩
  ·obtain⟨v',e1,r'⟩:=E.sh j d' q;exact⟨v',by rw [List.getElem?_set_ne n];exact e1,r'⟩
 ·rcases Fd e with⟨rfl,q⟩|⟨n,q⟩
  ·subst q;cases zo
  ·obtain⟨v',e1,t⟩:=E.ow j z d' q zo;exact⟨v',by rw [List.getElem?_set_ne n];exact e1,t⟩
 ·rcases Fd e with⟨rfl,q⟩|⟨n,q⟩
  ·cases q
  ·rw [List.getElem?_set_ne n];exact E.lk j d' q
 ·rcases Fd e with⟨rfl,q⟩|⟨n,q⟩
  ·cases q
  ·rw [List.getElem?_set_ne n];exact E.lt j d' q
theorem Ev.putO(E:Ev K H0 G0 G H σ Δ A){i:Nat}{z:Sl}{d:Tn}{S:AS}(fr:∀a,S a->H0.h a=none/\G a=none/\H a≠none)(zo:z.own=some d)(zl:∀d,z≠ .lk d)(t:Ow K G H v d S)(nw:∀j a,A j a->¬S a)(zt:∀d,z=.lt d->v=.ref (H0.b i):=by intro _ z;cases z):
  Ev K H0 G0 G H (σ.set i (some v)) (Δ.set i z) (Fm A i S):=by
 refine⟨E.st,by rw [List.length_set,List.length_set];exact E.len,λj d' e'=> ?_,λj z' d' e' zo'=> ?_,λj a ha=> ?_,λj j' a h1 h2=> ?_,λj d' e'=> ?_,λj d' e'=> ?_⟩
 ·rcases Fd e' with⟨rfl,q⟩|⟨nn,q⟩
  ·subst q;cases zo
  ·obtain⟨v',e1,r'⟩:=E.sh j d' q;exact⟨v',by rw [List.getElem?_set_ne nn];exact e1,r'⟩
 ·rcases Fd e' with⟨rfl,q⟩|⟨nn,q⟩
  ·subst q;rw [zo] at zo';cases zo';exact⟨v,by rw [List.getElem?_set_self (by rw [E.len];exact bs_8 e')],by rw [i_0];exact t⟩
  ·obtain⟨v',e1,x⟩:=E.ow j z' d' q zo';exact⟨v',by rw [List.getElem?_set_ne nn];exact e1,by rw [h_6 (Ne.symm nn)];exact x⟩
 ·by_cases z:j=i
  ·subst z;rw [i_0] at ha;obtain⟨a1,a2,a3⟩:=fr a ha;exact⟨a2,a1,a3⟩
  ·rw [h_6 z] at ha;exact E.out j a ha
 ·by_cases z:j=i
  ·by_cases z':j'=i
   ·rw [z,z']
   ·rw [z,i_0] at h1;rw [h_6 z'] at h2;exact absurd h1 (nw j' a h2)
  ·by_cases z':j'=i
   ·rw [h_6 z] at h1;rw [z',i_0] at h2;exact absurd h2 (nw j a h1)
   ·rw [h_6 z] at h1;rw [h_6 z'] at h2;exact E.dj j j' a h1 h2
 ·rcases Fd e' with⟨rfl,q⟩|⟨nn,q⟩
  ·exact absurd q.symm (zl d')
  ·rw [List.getElem?_set_ne nn];exact E.lk j d' q
 ·rcases Fd e' with⟨rfl,q⟩|⟨nn,q⟩
  ·rw [List.getElem?_set_self (by rw [E.len];exact bs_8 e'),zt d' q.symm]
  ·rw [List.getElem?_set_ne nn];exact E.lt j d' q
theorem Ev.step2(E:Ev K H0 G0 G H σ Δ A){i:Nat}{z:Sl}{d':Tn}{S:AS}(zo:z.own=some d')(zl:∀d,z≠ .lk d)(zt:∀d,z=.lt d->σ[i]? =some (some (.ref (H0.b i))))(ms:MStep2 (A i) G H G' H')(s:σ[i]? =some (some v))(fr:∀a,S a->(A i a\/H a=none)/\G' a=none/\H' a≠none)(t:Ow K G' H' v d' S):
  Ev K H0 G0 G' H' σ (Δ.set i z) (Fm A i S):=by
 have st:Step G0 H0.h G' H':=⟨λb o q=>ms.hh b o (λhb=>by rw [(E.out i b hb).2.1] at q;cases q) (E.st.hh b o q),ms.gh,E.st.gg.trans ms.gg,
  λb n z=>ms.nw b (λhb=>z (E.out i b hb).2.1) (E.st.nw b n z) λq=>z (E.st.hh.free q)⟩
 refine⟨st,by rw [List.length_set];exact E.len,λj d2 e'=> ?_,λj z' d2 e' zo'=> ?_,λj a ha=> ?_,λj j' a h1 h2=> ?_,λj d2 e'=> ?_,λj d2 e'=> ?_⟩
 ·rcases Fd e' with⟨rfl,q⟩|⟨nn,q⟩
  ·subst q;cases zo
  ·obtain⟨v',e1,r'⟩:=E.sh j d2 q;exact⟨v',e1,r'.mono ms.gg⟩
 ·rcases Fd e' with⟨rfl,q⟩|⟨nn,q⟩
  ·subst q;rw [zo] at zo';cases zo';exact⟨v,s,by rw [i_0];exact t⟩
  ·obtain⟨v',e1,x⟩:=E.ow j z' d2 q zo';rw [h_6 (Ne.symm nn)];exact⟨v',e1,x.mono ms.gg (λb o hb q=>ms.hh b o (λhi=>nn (E.dj i j b hi hb)) q) λ_ q=>q⟩
 ·by_cases z:j=i
  ·subst z;rw [i_0] at ha;obtain⟨a1,a2,a3⟩:=fr a ha;refine⟨a2, ?_,a3⟩;rcases a1 with a1|a1
   ·exact(E.out j a a1).2.1
   ·exact E.st.hh.free a1
  ·rw [h_6 z] at ha;obtain⟨h1,h2,h3⟩:=E.out j a ha;have hn:¬A i a:=λhb=>z (E.dj j i a ha hb);refine⟨ms.nw a hn h1 h3,h2,λq=> ?_⟩;cases e:H a with
   |none=>exact h3 e
   |some o=>rw [ms.hh a o hn e] at q;cases q
 ·have own:∀k,k≠i->A k a->¬S a:=λk nk hk hs=>by
   rcases(fr a hs).1 with q|q
   ·exact nk (E.dj k i a hk q)
   ·exact(E.out k a hk).2.2 q
  by_cases z:j=i
  ·by_cases z':j'=i
   ·rw [z,z']
   ·rw [z,i_0] at h1;rw [h_6 z'] at h2;exact absurd h1 (own j' z' h2)
  ·by_cases z':j'=i
   ·rw [h_6 z] at h1;rw [z',i_0] at h2;exact absurd h2 (own j z h1)
   ·rw [h_6 z] at h1;rw [h_6 z'] at h2;exact E.dj j j' a h1 h2
 ·rcases Fd e' with⟨rfl,q⟩|⟨nn,q⟩
  ·exact absurd q.symm (zl d2)
  ·exact E.lk j d2 q
 ·rcases Fd e' with⟨rfl,q⟩|⟨nn,q⟩
  ·exact zt d2 q.symm
  ·exact E.lt j d2 q
theorem Ev.step(E:Ev K H0 G0 G H σ Δ A){i:Nat}{z:Sl}{d':Tn}{S:AS}(zo:z.own=some d')(zl:∀d,z≠ .lk d)(ms:MStep (A i) G H G' H')(s:σ[i]? =some (some v))(fr:∀a,S a->(A i a\/H a=none)/\G' a=none/\H' a≠none)(t:Ow K G' H' v d' S)(zt:∀d,z≠ .lt d:=by intro _ z;cases z):
  Ev K H0 G0 G' H' σ (Δ.set i z) (Fm A i S):=E.step2 zo zl (λd e=>absurd e (zt d)) ms.weak s fr t
theorem Ev.writeL(E:Ev K H0 G0 G H σ Δ A){i:Nat}{a:Addr}{vs:List V}{ds:List D}(s:σ[i]? =some (some (.ref a)))(m:A i a)(r:HasL K G vs ds):Ev K H0 G0 G (upd H a (.lst vs)) σ (Δ.set i (.ow (.lst ds))) (Fm A i (A i)):=
 have ms:=MStep.write E.st.gh m (E.out i a m).1 (.lst vs)
 E.step rfl (λ_ z=>by cases z) ms s (λb hb=>⟨.inl hb,(E.out i b hb).1,ms.al b (E.out i b hb).2.2⟩) (Ow.list Ba m r)
theorem Ev.writeD(E:Ev K H0 G0 G H σ Δ A){i:Nat}{a:Addr}{kvs:List (Af×V)}{kds:List (Af×D)}(s:σ[i]? =some (some (.ref a)))(m:A i a)(hk:kvs.map (·.1)=kds.map (·.1))(r:HasL K G (kvs.map (·.2)) (kds.map (·.2))):Ev K H0 G0 G (upd H a (.dK kvs)) σ (Δ.set i (.ow (.dic kds))) (Fm A i (A i)):=
 have ms:=MStep.write E.st.gh m (E.out i a m).1 (.dK kvs)
 E.step rfl (λ_ z=>by cases z) ms s (λb hb=>⟨.inl hb,(E.out i b hb).1,ms.al b (E.out i b hb).2.2⟩) (Ow.dict Ba hk m r)
end
def give1(Δ:SE)(j:Nat):SE:=match Δ[j]? with
 |some s=>Δ.set j s.give
 |none=>Δ
def gsome(js:List Nat)(Δ:SE):SE:=js.foldl give1 Δ
section
variable{K:Frag}{H0:HB}{G0 G H:Hp}{σ:Sg}{Δ:SE}{A:OS}
theorem u_0{α:Type}{l:List α}{j:Nat}{x:α}(h:l[j]? =some x):l.set j x=l:=by
 apply List.ext_getElem?;intro i
 by_cases e:j=i
 ·subst e;have hlt:j < l.length:=(List.getElem?_eq_some_iff.mp h).1;rw [List.getElem?_set_self hlt,h]
 ·rw [List.getElem?_set_ne e]
theorem Ev.give3(E:Ev K H0 G0 G H σ Δ A){j:Nat}{z:Sl}{t:Tn}(e:Δ[j]? =some z)(zo:z.own=some t):Same G (Cv G H (A j))/\Ev K H0 G0 (Cv G H (A j)) H σ (Δ.set j (.sh t.d)) (Fm A j λ_=>False):=by
   obtain⟨v,s1,t⟩:=E.ow j z t e zo;have sg:Same G (Cv G H (A j)):=λb o q=>by
    unfold Cv
    split
    ·rename_i hb;rw [(E.out j b hb).1] at q;cases q
    ·exact q
   have gh:Same (Cv G H (A j)) H:=λb o q=>by
    unfold Cv at q
    split at q
    ·exact q
    ·exact E.st.gh b o q
   refine⟨sg,⟨E.st.hh,gh,E.st.gg.trans sg,λb h1 h2=> ?_⟩,by rw [List.length_set];exact E.len,λi d' e'=> ?_,λi z' d' e' zo'=> ?_,λi b hb=> ?_,λi i' b h1 h2=> ?_,λi d' e'=> ?_,λi d' e'=> ?_⟩
   ·unfold Cv
    split
    ·rename_i hb;exact absurd (E.out j b hb).2.1 h2
    ·exact E.st.nw b h1 h2
   ·rcases Fd e' with⟨rfl,q⟩|⟨n,q⟩
    ·cases q;refine⟨v,s1,t.has sg λb o hb q=> ?_⟩;unfold Cv;rw [if_pos hb];exact q
    ·obtain⟨v',e1,r⟩:=E.sh i d' q;exact⟨v',e1,r.mono sg⟩
   ·rcases Fd e' with⟨rfl,q⟩|⟨n,q⟩
    ·subst q;cases zo'
    ·obtain⟨v',e1,t'⟩:=E.ow i z' d' q zo';rw [h_6 (Ne.symm n)];exact⟨v',e1,t'.mono sg (λb o _ q=>q) λ_ q=>q⟩
   ·by_cases z:i=j
    ·subst z;rw [i_0] at hb;exact hb.elim
    ·rw [h_6 z] at hb;obtain⟨k1,k2,k3⟩:=E.out i b hb;refine⟨?_,k2,k3⟩;unfold Cv;rw [if_neg λq=>z (E.dj i j b hb q)];exact k1
   ·by_cases z:i=j
    ·subst z;rw [i_0] at h1;exact h1.elim
    ·by_cases z':i'=j
     ·subst z';rw [i_0] at h2;exact h2.elim
     ·rw [h_6 z] at h1;rw [h_6 z'] at h2;exact E.dj i i' b h1 h2
   ·rcases Fd e' with⟨rfl,q⟩|⟨n,q⟩
    ·cases q
    ·exact E.lk i d' q
   ·rcases Fd e' with⟨rfl,q⟩|⟨n,q⟩
    ·cases q
    ·exact E.lt i d' q
theorem Ev.give2(E:Ev K H0 G0 G H σ Δ A){j:Nat}{z:Sl}{t:Tn}(e:Δ[j]? =some z)(zo:z.own=some t):∃G' A',Same G G'/\Ev K H0 G0 G' H σ (Δ.set j (.sh t.d)) A':=⟨_,_,E.give3 e zo⟩
theorem Ev.give1(E:Ev K H0 G0 G H σ Δ A)(j:Nat):∃G' A',Same G G'/\Ev K H0 G0 G' H σ (L3.give1 Δ j) A':=by
 unfold L3.give1;cases e:Δ[j]? with
 |none=>exact⟨G,A,Same.refl _,E⟩
 |some s=>
  cases s with
  |no=>exact⟨G,A,Same.refl _,by show Ev K H0 G0 G H σ (Δ.set j .no) A;rw [u_0 e];exact E⟩
  |sh d=>exact⟨G,A,Same.refl _,by show Ev K H0 G0 G H σ (Δ.set j (.sh d)) A;rw [u_0 e];exact E⟩
  |ow d=>
   have:=E.give2 e (t:=Tn.of d) rfl;rw [Tn.of_d] at this;exact this
  |tr t=>exact E.give2 e rfl
  |lk d=>exact⟨G,A,Same.refl _,by show Ev K H0 G0 G H σ (Δ.set j (.lk d)) A;rw [u_0 e];exact E⟩
  |lt t=>exact⟨G,A,Same.refl _,by show Ev K H0 G0 G H σ (Δ.set j (.lt t)) A;rw [u_0 e];exact E⟩
theorem Ev.gsome:∀(js:List Nat) {G:Hp} {Δ:SE} {A:OS},Ev K H0 G0 G H σ Δ A->∃G' A',Same G G'/\Ev K H0 G0 G' H σ (L3.gsome js Δ) A'
 | [],G,Δ,A,E=>⟨G,A,Same.refl _,E⟩
 |j::js,G,Δ,A,E=>by
  obtain⟨G1,A1,s1,E1⟩:=E.give1 j;obtain⟨G2,A2,s2,E2⟩:=Ev.gsome js E1;exact⟨G2,A2,s1.trans s2,E2⟩
end
def Fin(K:Frag)(EX:Ay)(H0:HB)(G0 G1:Hp)(D:Ends):Fl->Prop
 | .nx Δ=>∀σ G H O,Ev K H0 G0 G H σ Δ O->Same G1 G->D.nx σ H
 | .bk Δ=>∀σ G H O,Ev K H0 G0 G H σ Δ O->Same G1 G->D.bk σ H
 | .ct Δ=>∀σ G H O,Ev K H0 G0 G H σ Δ O->Same G1 G->D.ct σ H
 | .rt w=>WP K G0 H0.h w D.rt
 | .rv d Δ=>∀v σ G H O,Ev K H0 G0 G H σ Δ O->Same G1 G->Has K G v d->D.rt v H
 | .ex x Δ=>∀σ G H O,Ev K H0 G0 G H σ Δ O->Same G1 G->(EX σ).p x G H
 | .no=>False
theorem Fin.mono{EX:Ay}{H0:HB}{G0 G1 G2:Hp}{D:Ends}{r:Fl}(s:Same G1 G2)(h:Fin K EX H0 G0 G1 D r):Fin K EX H0 G0 G2 D r:=by
 cases r with
 |nx Δ=>exact λ σ G H O E q=>h σ G H O E (s.trans q)
 |bk Δ=>exact λ σ G H O E q=>h σ G H O E (s.trans q)
 |ct Δ=>exact λ σ G H O E q=>h σ G H O E (s.trans q)
 |rt w=>exact h
 |rv d Δ=>exact λv σ G H O E q=>h v σ G H O E (s.trans q)
 |ex x Δ=>exact λ σ G H O E q=>h σ G H O E (s.trans q)
 |no=>exact h
def tS(K:Frag)(EX:Ay)(g:FS):TS:=λD σ H=>∃H0 G0 G Δ O,Ev K H0 G0 G H σ Δ O/\Fin K EX H0 G0 G D (g Δ)
abbrev SD(X:Cx)(EX:Ay)(st:Stmt)(g:FS):Prop:=PS X st (tS X.K EX g)
abbrev BD(X:Cx)(EX:Ay)(st:List Stmt)(g:FS):Prop:=PSs X st (tS X.K EX g)
section
variable{X:Cx}{EX:Ay}{st:Stmt}{sts:List Stmt}{g h:FS}{pos:Pos}{e:Expr}{f:FE}{p:FT}
def Az:FS:=λ Δ=> .nx Δ
def Ag(g h:FS):FS:=λ Δ=>match g Δ with
 | .nx Δ'=>h Δ'
 |r=>r
theorem Dn:BD X EX [] Az:=PSs.imp cv_4 λD σ H ⟨H0,G0,G,Δ,O,E,q⟩=>q σ G H O E (Same.refl _)
theorem Bc(h1:SD X EX st g):BD X EX [st] g:=bc_8 h1
theorem Av(h1:SD X EX st g)(h2:BD X EX sts h):BD X EX (st::sts) (Ag g h):=
 PSs.imp (cj_2 h1 h2) λD σ H ⟨H0,G0,G,Δ,O,E,q⟩=>by
  refine⟨H0,G0,G,Δ,O,E, ?_⟩;unfold Ag at q;cases e:g Δ with
  |nx Δ'=>rw [e] at q;exact λ σ' G' H' O' E' sm=>⟨H0,G0,G',Δ',O',E',Fin.mono sm q⟩
  |bk Δ'=>rw [e] at q;exact q
  |ct Δ'=>rw [e] at q;exact q
  |rt w=>rw [e] at q;exact q
  |rv d Δ'=>rw [e] at q;exact q
  |ex x Δ'=>rw [e] at q;exact q
  |no=>rw [e] at q;exact q
def exG(js:List Nat)(f:FE)(Δ:SE):Fl:=match f (As (gsome js Δ)) with
 | .ex x=> .ex x (gsome js Δ)
 |_=> .no
def exT(js:List Nat)(p:FT)(Δ:SE):Fl:=match p (As (gsome js Δ)) with
 | .ex x=> .ex x (gsome js Δ)
 |_=> .no
theorem bj_7{H0:HB}{G0 G G1 H:Hp}{σ:Sg}{Δ:SE}{O:OS}{D:Ends}{js:List Nat}{Q:VK}(E:Ev K H0 G0 G H σ Δ O)(sg:Same G1 G)(q:Fin K EX H0 G0 G1 D (exG js f Δ)):tD K EX f σ H Q:=by
 obtain⟨G',O',s',E'⟩:=E.gsome js;refine⟨G',As (gsome js Δ),E'.st.gh,E'.gsh, ?_⟩;unfold exG at q;cases e:f (As (gsome js Δ)) with
 |ok w=>rw [e] at q;exact q.elim
 |ex x=>rw [e] at q;exact q σ G' H O' E' (sg.trans s')
 |no=>rw [e] at q;exact q.elim
theorem cm_3{H0:HB}{G0 G G1 H:Hp}{σ:Sg}{Δ:SE}{O:OS}{D:Ends}{js:List Nat}{Q:Bool->Hp->Prop}(E:Ev K H0 G0 G H σ Δ O)(sg:Same G1 G)(q:Fin K EX H0 G0 G1 D (exT js p Δ)):tDt K EX p σ H Q:=by
 obtain⟨G',O',s',E'⟩:=E.gsome js;refine⟨G',As (gsome js Δ),E'.st.gh,E'.gsh, ?_⟩;unfold exT at q;cases e:p (As (gsome js Δ)) with
 |ok w=>rw [e] at q;exact q.elim
 |ex x=>rw [e] at q;exact q σ G' H O' E' (sg.trans s')
 |no=>rw [e] at q;exact q.elim
def At(js:List Nat)(f:FE):FS:=λ Δ=>match f (Bb Δ) with
 | .ok w=> .rt w
 | .ex _=>exG js f Δ
 | .no=> .no
theorem Ce(js:List Nat)(he:ED X EX e f):SD X EX (.Return (some e) pos) (At js f):=
 PS.imp (bq_4 he) λD σ H ⟨H0,G0,G,Δ,O,E,q⟩=>by
  unfold At at q;cases e1:f (Bb Δ) with
  |ok w=>
   rw [e1] at q;exact⟨x_4 G H O,Bb Δ,E.aH,E.gall,by rw [e1];exact WP.mono E.aStep q⟩
  |ex x=>rw [e1] at q;exact bj_7 E (Same.refl _) q
  |no=>rw [e1] at q;exact q.elim
def Cl(i:Nat):FS:=λ Δ=>match Δ[i]? with
 |some (.sh d)=> .rt (.sh d)
 |some (.ow d)=> .rt (.ow d)
 |some (.tr t)=> .rt (.tr t)
 |_=> .no
theorem z_8(i:Nat){x:Str}{pos pos':Pos}(hN:X.N[i]? =some x:=by rfl)(hv:Fu X.env.scope x:=by first|exact Or.inl rfl|exact Or.inr (Or.inl rfl)|exact Or.inr (Or.inr rfl))(hd:(x ==("__debug__" :Str))=false:=by decide)
  (hcd:(x ==("__classdict__" :Str))=false:=by decide):SD X EX (.Return (some (.Name x pos)) pos') (Cl i):=
 PS.imp (bq_4 (Ft hN hv hd hcd)) λD σ H ⟨H0,G0,G,Δ,O,E,q⟩=>by
  unfold Cl at q
  split at q
  ·rename_i d e;obtain⟨v,e1,r⟩:=E.sh i d e;exact⟨v,e1,(WP.mono (w:=.sh d) (Q:=D.rt) E.st q).use E.st.gh r⟩
  ·rename_i d e;obtain⟨v,e1,t⟩:=E.ow i _ _ e rfl;exact⟨v,e1,q v (O i) G H E.st (λa ha=>let⟨h1,h2,h3⟩:=E.out i a ha;⟨h2,h1,h3⟩) t⟩
  ·rename_i d e;obtain⟨v,e1,t⟩:=E.ow i _ _ e rfl;exact⟨v,e1,q v (O i) G H E.st (λa ha=>let⟨h1,h2,h3⟩:=E.out i a ha;⟨h2,h1,h3⟩) t⟩
  ·exact q.elim
def Dy(i:Nat)(Δ:SE):R W->Fl
 | .ok (.sh d)=> .nx (Δ.set i (.sh d))
 | .ok (.ow d)=> .nx (Δ.set i (.ow d))
 | .ok (.tr t)=> .nx (Δ.set i (.tr t))
 | .ex x=> .ex x Δ
 | .no=> .no
def Al(i:Nat)(js:List Nat)(f:FE):FS:=λ Δ=>match f (As Δ) with
 | .ok (.sh d)=> .nx (Δ.set i (.sh d))
 | .ok (.ow d)=> .nx (Δ.set i (.ow d))
 | .ok (.tr t)=> .nx (Δ.set i (.tr t))
 | .ex x=> .ex x Δ
 | .no=>match f (Bb Δ) with
  | .ex _=>Dy i (gsome js Δ) (f (As (gsome js Δ)))
  | .no=> .no
  | .ok w=>if Bn w.d=true then .nx (Δ.set i (.sh w.d)) else Dy i (gsome js Δ) (f (As (gsome js Δ)))
theorem ao_1{H0:HB}{G0 G G1 H:Hp}{σ:Sg}{Δ:SE}{O:OS}{D:Ends}{i:Nat}(E:Ev K H0 G0 G H σ Δ O)(sg:Same G1 G)
  (q:Fin K EX H0 G0 G1 D (Dy i Δ (f (As Δ)))):tAsg (tD K EX f) (bw_5 i) D σ H:=by
 refine⟨G,As Δ,E.st.gh,E.gsh, ?_⟩;unfold Dy at q;cases e1:f (As Δ) with
 |ok w=>
  rw [e1] at q;cases w with
  |sh d=>exact λv G' H' st r=>q _ G' H' O ((E.grow st).put r) (sg.trans st.gg)
  |ow d=>
   intro v S G' H' st fr t;exact q _ G' H' _ ((E.grow st).putO (λa ha=>⟨E.st.hh.free (fr a ha).1,(fr a ha).2⟩) rfl (λ_ z=>by cases z) t λj a hj hs=>(E.out j a hj).2.2 (fr a hs).1) (sg.trans st.gg)
  |tr d=>
   intro v S G' H' st fr t;exact q _ G' H' _ ((E.grow st).putO (λa ha=>⟨E.st.hh.free (fr a ha).1,(fr a ha).2⟩) rfl (λ_ z=>by cases z) t λj a hj hs=>(E.out j a hj).2.2 (fr a hs).1) (sg.trans st.gg)
 |ex x=>rw [e1] at q;exact q σ G H O E sg
 |no=>rw [e1] at q;exact q
theorem bj_8{D:Ends}{σ:Sg}{i:Nat}{js:List Nat}(q:tS K EX (Al i js f) D σ H):tAsg (tD K EX f) (bw_5 i) D σ H:=by
 obtain⟨H0,G0,G,Δ,O,E,q⟩:=q;unfold Al at q;cases e1:f (As Δ) with
 |ok w=>
  rw [e1] at q;refine ao_1 E (Same.refl _) ?_;unfold Dy;rw [e1];cases w <;> exact q
 |ex x=>
  rw [e1] at q;refine ao_1 E (Same.refl _) ?_;unfold Dy;rw [e1];exact q
 |no=>
  rw [e1] at q;cases e2:f (Bb Δ) with
  |ok w=>
   simp only [e2] at q
   split at q
   ·rename_i fl;refine⟨x_4 G H O,Bb Δ,E.aH,E.gall, ?_⟩;rw [e2];exact WP.intro λv G' H' st r=>q _ G H' O ((E.keep st.hh).put (r.ofFl fl)) (Same.refl _)
   ·obtain⟨G',O',sg,E'⟩:=E.gsome js;exact ao_1 E' sg q
  |ex x=>
   simp only [e2] at q;obtain⟨G',O',sg,E'⟩:=E.gsome js;exact ao_1 E' sg q
  |no=>simp only [e2] at q;exact q.elim
theorem Br{i:Nat}(js:List Nat){x:Str}{pos':Pos}(he:ED X EX e f)(hN:X.N.Nodup)(hi:X.N[i]? =some x:=by rfl)(hx:Fb X.env.scope x:=by first|exact Or.inl rfl|exact Or.inr rfl)(hs:swapsWith e (some (.Name x pos')) pos.line X.env=pure false:=by rfl)
  (hf:X.fn x=true\/X.env.scope.names.lookup x=some .local:=by first|exact .inl rfl|exact .inr rfl|assumption):SD X EX (.Assign [.Name x pos'] e pos) (Al i js f):=
 PS.imp (bq_6 hN hi hx he hs hf) λD σ H q=>bj_8 q
def sExpr(js:List Nat)(f:FE):FS:=λ Δ=>match f (Bb Δ) with
 | .ok _=> .nx Δ
 | .ex _=>exG js f Δ
 | .no=> .no
theorem cx_8(js:List Nat)(he:ED X EX e f)(hs:swapsWith e none pos.line X.env=pure false:=by rfl):SD X EX (.Expr e pos) (sExpr js f):=
 PS.imp (u_8 he hs) λD σ H ⟨H0,G0,G,Δ,O,E,q⟩=>by
  unfold sExpr at q;cases e1:f (Bb Δ) with
  |ok w=>
   rw [e1] at q;exact⟨x_4 G H O,Bb Δ,E.aH,E.gall,by rw [e1];exact WP.intro λv G' H' st r=>q σ G H' O (E.keep st.hh) (Same.refl _)⟩
  |ex x=>rw [e1] at q;exact bj_7 E (Same.refl _) q
  |no=>rw [e1] at q;exact q.elim
def Bu(js:List Nat)(p:FT)(g h:FS):FS:=λ Δ=>match p (Bb Δ) with
 | .ok b=>if b=true then g Δ else h Δ
 | .ex _=>exT js p Δ
 | .no=> .no
theorem az_3{H0:HB}{G0 G H:Hp}{σ:Sg}{Δ:SE}{O:OS}{D:Ends}{k:Bool->Fl}{P:Bool->Hp->Prop}{js:List Nat}(E:Ev K H0 G0 G H σ Δ O)
  {G1:Hp} (sg:Same G1 G) (q:Fin K EX H0 G0 G1 D (match p (Bb Δ) with| .ok b=>k b| .ex _=>exT js p Δ| .no=> .no)) (i:∀b H',p (Bb Δ)=.ok b->Ev K H0 G0 G H' σ Δ O->Fin K EX H0 G0 G1 D (k b)->P b H'):tDt K EX p σ H P:=by
 cases e1:p (Bb Δ) with
 |ok b=>rw [e1] at q;exact⟨x_4 G H O,Bb Δ,E.aH,E.gall,by rw [e1];exact λG' H' st=>i b H' e1 (E.keep st.hh) q⟩
 |ex x=>rw [e1] at q;exact cm_3 E sg q
 |no=>rw [e1] at q;exact q.elim
theorem Dj(js:List Nat){c:Expr}{as bs:List Stmt}(hc:TD X EX c p)(ha:BD X EX as g)(hb:BD X EX bs h):SD X EX (.If c as bs pos) (Bu js p g h):=
 PS.imp (de_7 hc ha hb) λD σ H ⟨H0,G0,G,Δ,O,E,q⟩=>az_3 (k:=λb=>if b=true then g Δ else h Δ) E (Same.refl _) q λb H' _ E' q'=>by
  cases b with
  |true=>rw [if_pos rfl];exact⟨H0,G0,G,Δ,O,E',q'⟩
  |false=>rw [if_neg Bool.false_ne_true];exact⟨H0,G0,G,Δ,O,E',q'⟩
def t_3(js:List Nat)(p:FT)(g:FS):Nat->FS
 |0=>λ_=> .no
 |n + 1=>λ Δ=>match p (Bb Δ) with
  | .ok b=>if b=true then(match g Δ with
    | .nx Δ'=>t_3 js p g n Δ'
    | .ct Δ'=>t_3 js p g n Δ'
    | .bk Δ'=> .nx Δ'
    |r=>r) else .nx Δ
  | .ex _=>exT js p Δ
  | .no=> .no
theorem cm_4(js:List Nat)(n:Nat){c:Expr}{body:List Stmt}(hp:PassesOwn (model X.prog X.w) X.A X.env X.xe)(hc:TD X EX c p)(hb:BD X EX body g):SD X EX (.While c body [] pos) (t_3 js p g n):=
 PS.imp (cj_4 hp hc hb) λD σ H ⟨H0,G0,G1,Δ,O,E,q⟩=>by
  refine⟨λm σ H=>∃G Δ O,Ev X.K H0 G0 G H σ Δ O/\Same G1 G/\Fin X.K EX H0 G0 G1 D (t_3 js p g m Δ),⟨n,G1,Δ,O,E,Same.refl _,q⟩, ?_⟩
  rintro m σ H ⟨G,Δ,O,E,sg,q⟩
  cases m with
  |zero=>exact False.elim q
  |succ m=>
   refine az_3 (k:=λb=>if b=true then(match g Δ with| .nx Δ'=>t_3 js p g m Δ'| .ct Δ'=>t_3 js p g m Δ'| .bk Δ'=> .nx Δ'|r=>r) else .nx Δ) E sg q λb H' _ E' q'=> ?_;cases b with
   |false=>rw [if_neg Bool.false_ne_true];exact q' σ G H' O E' sg
   |true=>
    rw [if_pos rfl];rw [if_pos rfl] at q';refine⟨λ σ' H'=>∃G Δ O,Ev X.K H0 G0 G H' σ' Δ O/\Same G1 G/\Fin X.K EX H0 G0 G1 D (t_3 js p g m Δ),λ σ' H' w=>⟨m,Nat.lt_succ_self _,w⟩,H0,G0,G,Δ,O,E', ?_⟩;cases e1:g Δ with
    |nx Δ'=>rw [e1] at q';exact λ σ' G' H' O' E2 s2=>⟨G',Δ',O',E2,sg.trans s2,q'⟩
    |ct Δ'=>rw [e1] at q';exact λ σ' G' H' O' E2 s2=>⟨G',Δ',O',E2,sg.trans s2,q'⟩
    |bk Δ'=>rw [e1] at q';exact Fin.mono (r:=.nx Δ') sg q'
    |rt w=>rw [e1] at q';exact q'
    |rv d Δ'=>rw [e1] at q';exact Fin.mono (r:=.rv d Δ') sg q'
    |ex x Δ'=>rw [e1] at q';exact Fin.mono (r:=.ex x Δ') sg q'
    |no=>rw [e1] at q';exact q'
end
def Bd(n:Nat)(ds:List D):SE:=ds.map Sl.sh ++ List.replicate (n - ds.length) .no
def Ap(n:Nat)(g:FS)(ds:List D):R W:=match g (Bd n ds) with
 | .nx _=> .ok (.sh .non)
 | .rt w=> .ok w
 | .ex x _=> .ex x
 |_=> .no
theorem cm_5{G H:Hp}{vs:List V}{ds:List D}{N:List Str}(g:Same G H)(r:HasL K G vs ds):Ev K ⟨H,λ_=>0⟩ G G H (L2.start N vs) (Bd N.length ds) (λ_ _=>False):=by
 refine⟨Step.refl g, ?_,λi d e=> ?_,λi z d e zo=> ?_,λ_ _ ha=>ha.elim,λ_ _ _ ha=>ha.elim,λi d e=> ?_,λi d e=> ?_⟩
 ·unfold L2.start Bd;simp only [List.length_append,List.length_map,List.length_replicate,r.length]
 ·unfold Bd at e
  by_cases hi:i < ds.length
  ·rw [List.getElem?_append_left (by rw [List.length_map];exact hi),List.getElem?_map] at e;cases q:ds[i]? with
   |none=>rw [q] at e;cases e
   |some d'=>
    rw [q] at e;cases e;obtain⟨v,e1,h⟩:=r.get q;refine⟨v, ?_,h⟩;unfold L2.start;rw [List.getElem?_append_left (by rw [List.length_map,r.length];exact hi),List.getElem?_map,e1];rfl
  ·rw [List.getElem?_append_right (by rw [List.length_map];omega),List.getElem?_replicate] at e
   split at e <;> cases e
 ·exfalso;unfold Bd at e
  by_cases hi:i < ds.length
  ·rw [List.getElem?_append_left (by rw [List.length_map];exact hi),List.getElem?_map] at e;cases q:ds[i]? with
   |none=>rw [q] at e;cases e
   |some d'=>rw [q] at e;cases e;cases zo
  ·rw [List.getElem?_append_right (by rw [List.length_map];omega),List.getElem?_replicate] at e
   split at e
   ·cases e;cases zo
   ·cases e
 ·exfalso;unfold Bd at e
  by_cases hi:i < ds.length
  ·rw [List.getElem?_append_left (by rw [List.length_map];exact hi),List.getElem?_map] at e;cases q:ds[i]? with
   |none=>rw [q] at e;cases e
   |some d'=>rw [q] at e;cases e
  ·rw [List.getElem?_append_right (by rw [List.length_map];omega),List.getElem?_replicate] at e
   split at e <;> cases e
 ·exfalso;unfold Bd at e
  by_cases hi:i < ds.length
  ·rw [List.getElem?_append_left (by rw [List.length_map];exact hi),List.getElem?_map] at e;cases q:ds[i]? with
   |none=>rw [q] at e;cases e
   |some d'=>rw [q] at e;cases e
  ·rw [List.getElem?_append_right (by rw [List.length_map];omega),List.getElem?_replicate] at e
   split at e <;> cases e
theorem fn_D{c:Bool}{P:Program}{w:World}{x qual:Str}{st:Stmt}{f:Addr}{N ps:List Str}{k:Nat}{g:FS}(F:Fun K x qual st f fd)(S:FnScope N ps (Ci st))
  (zj:∀(zq:Value) (A:Around) (outer:List Env) (s:Shared) (H:Hp) (E:XK),RoomC c k (A.deeper (envOfC qual (Ci st) s.heap.objs.size f zq))->
   BD (cxN c P w K mg base N qual (Ci st) f zq A outer s H E) (λ_=>EXof K E) (Fk st) g):FnX P w K mg base c (k + 1) f fd ps (Ca K ps.length (Ap N.length g)):=by
 refine Fun.okX F S (λvs H Q E h=>h.1) λzq A outer s H vs Q E hr h=>⟨_,zj zq A outer s H E hr, ?_⟩;obtain⟨hl,G,ds,g0,r,o⟩:=h;refine⟨⟨H,λ_=>0⟩,G,G,_,_,cm_5 g0 r, ?_⟩;unfold Ap at o;cases e:g (Bd N.length ds) with
 |nx Δ=>rw [e] at o;exact λ σ G' H' O E' _=>(WP.mono (w:=.sh .non) (Q:=Q) E'.st o).use E'.st.gh .non
 |rt w=>rw [e] at o;exact o
 |rv d Δ=>rw [e] at o;exact o.elim
 |ex x Δ=>rw [e] at o;exact λ σ G' H' O E' _=>(EXof K E).mono _ _ _ _ _ E'.st o
 |bk Δ=>rw [e] at o;exact o.elim
 |ct Δ=>rw [e] at o;exact o.elim
 |no=>rw [e] at o;exact o
theorem dk_5{c:Bool}{P:Program}{w:World}{x:Str}{st:Stmt}{f:Addr}{ps:List Str}{k:Nat}{Fn:List D->R W}(F:Fun K x x st f fd)(hm:mg x=some (.ref f))(hb:Binds K fd ps [])
  (ok:FnX P w K mg base c k f fd ps (Ca K ps.length Fn)):FnD P w K mg base c x k ps Fn:=⟨f,fd,ok,hm,F.kp,hb⟩
def cm_6(x:Str):It:=⟨λi _=>i < x.cps.size,λi H v H'=>H'=H/\∃c,x.cps[i]? =some c/\v=.str ⟨#[c]⟩,λi _=>i=x.cps.size⟩
theorem bs_9{P:Program}{w:World}{tg:Expr}{it:Addr}{n:Nat}{Pv:Nat->Value->Prop}{St:Nat->Heap->Prop}{J:It}
  (W:∀A':Around,A'.handled=none->Walks P w A' it [it] [it] n Pv St)
  (bf:∀i h,St i h->∃o nm vs,h.get? it=some o/\o.cls=.type nm/\o.data=.fields vs/\ ["enumerate","zip","dict_itemiterator","dict_reverseitemiterator","odict_iterator","itertools.zip_longest","itertools.pairwise"].contains nm=false)
  (cv:∀(i:Nat) (h h':Heap),St i h->(∀b∈ [it],∀o,h.get? b=some o->h'.get? b=some o)->St i h') (bt:∀(A:Around) (i:Nat) (s:Shared) (Q E:Value->Shared->Prop),St i s.heap->Q (.ref it) s->wpAny (model P w) A (pyIter (.ref it)) Q E s)
  (hgo:∀i H,J.go i H->i < n) (hst:∀i H,J.stop i H->i=n) (hy:∀i H u,Pv i u->∃x,RelV x u/\J.yld i H x H):Turn P w K tg J [it] it St where
 mem:=by simp
 obj:=λi h st b hb=>by
  have e:b=it:=by simpa using hb
  subst e;obtain⟨o,nm,vs,e,c,d,_⟩:=bf i h st;exact⟨o,e,λv z=>by rw [d] at z;cases z⟩
 keep:=cv
 item:=by
  intro X hP hw hK hc i zd s σ H E I hf st hg;subst hP hw hK;obtain⟨f0,f1,f2,f3,f4,f5⟩:=hf it (by simp);refine(W X.A (I.ok.hd hc)).item i s _ _ (hgo i H hg) st λv h' tk hv st' kk=> ?_;have I1:Inv X zd σ H {s with heap:=h',toks:=tk}:=I.turned (λb o hb e=>kk b o (by simpa using hb) e) f0 f1 f3 f4 f5;obtain⟨x,rx,yx⟩:=hy i H v hv;obtain⟨o,nm,vs,e,c,d,hn⟩:=bf (i + 1) h' st';exact⟨v,rfl,bi_4 (s:={s with heap:=h',toks:=tk}) e c d hn ⟨x,H,I1,rx,yx,st',λb hb=>(hf b hb).1⟩⟩
 done:=by
  intro X hP hw hK hc i zd s σ H E I hf st hg;subst hP hw hK;obtain⟨f0,f1,f2,f3,f4,f5⟩:=hf it (by simp);obtain rfl:=hst i H hg;exact(W X.A (I.ok.hd hc)).done s _ _ st λh' tk kk=>⟨rfl,I.turned (λb o hb e=>kk b o (by simpa using hb) e) f0 f1 f3 f4 f5⟩
 self:=bt
def ItD(K:Frag)(G1:Hp)(J:It)(ds:List D):Prop:=∀G H,Same G1 G->Same G H->∀i,
 (∀d,ds[i]? =some d->J.go i H/\∀x H',J.yld i H x H'->∃G',Step G H G' H'/\Has K G' x d)/\(ds.length=i->J.stop i H)
abbrev FI:=DE->R (List D)
def tI(K:Frag)(EX:Ay)(fi:FI):TI:=λ σ H Q=>∃G δ,Same G H/\HasS K G σ δ/\match fi δ with
 | .ok ds=>∀J G' H',Step G H G' H'->ItD K G' J ds->Q J H'
 | .ex x=>(EX σ).p x G H
 | .no=>False
abbrev ID(X:Cx)(EX:Ay)(tg iter:Expr)(fi:FI):Prop:=PI X tg iter (tI X.K EX fi)
theorem PI.imp{tg e:Expr}{t t':TI}(h:PI X tg e t)(i:∀σ H Q,t' σ H Q->t σ H Q):PI X tg e t':=λzd s σ H Q I q=>h zd s σ H Q I (i σ H Q q)
section
variable{X:Cx}{EX:Ay}{tg e a b:Expr}{f:FE}{fa:FA}{p pos:Pos}
theorem tDa.seqI{G H:Hp}{σ:Sg}{δ:DE}{k:List D->R (List D)}{Q:It->Hp->Prop}{P:List V->Hp->Prop}(g:Same G H)(s:HasS K G σ δ)
  (h:match(fa δ).bind k with| .ok ds=>∀J G' H',Step G H G' H'->ItD K G' J ds->Q J H'| .ex x=>(EX σ).p x G H| .no=>False)
  (i:∀ds vs G' H',Step G H G' H'->HasL K G' vs ds->(match k ds with| .ok ds=>∀J G2 H2,Step G' H' G2 H2->ItD K G2 J ds->Q J H2| .ex x=>(EX σ).p x G' H'| .no=>False)->P vs H'):tDa K EX fa σ H P:=by
 refine⟨G,δ,g,s, ?_⟩;cases e:fa δ with
 |ok ds=>
  rw [e] at h;simp only [R.bind_ok] at h;refine λvs G' H' st r=>i ds vs G' H' st r ?_;cases e2:k ds with
  |ok ds'=>rw [e2] at h;exact λJ G2 H2 st2 it=>h J G2 H2 (st.trans st2) it
  |ex x=>rw [e2] at h;exact(EX σ).mono _ _ _ _ _ st h
  |no=>rw [e2] at h;exact h
 |ex x=>rw [e] at h;exact h
 |no=>rw [e] at h;exact h
def p_5(lo:Int)(n:Nat):List D:=(List.range n).map λ(k:Nat)=>D.int (lo + (k:Int))
theorem cf_4{lo:Int}{n i:Nat}{d:D}(h:(p_5 lo n)[i]? =some d):i < n/\d=.int (lo + (i:Int)):=by
 unfold p_5 at h;rw [List.getElem?_map] at h
 by_cases hi:i < n
 ·rw [List.getElem?_range hi] at h;cases h;exact⟨hi,rfl⟩
 ·rw [List.getElem?_eq_none (by rw [List.length_range];omega)] at h;cases h
theorem az_4(lo:Int)(n:Nat):(p_5 lo n).length=n:=by unfold p_5;rw [List.length_map,List.length_range]
theorem cf_5{G:Hp}(lo:Int)(n:Nat):ItD K G (Itr lo n) (p_5 lo n):=λG' H _ g i=>by
 refine⟨λd e=> ?_,λe=> ?_⟩
 ·obtain⟨hi,rfl⟩:=cf_4 e;refine⟨hi,λx H' y=> ?_⟩;obtain⟨e1,e2⟩:=y;subst e1 e2;exact⟨G',Step.refl g,.int _⟩
 ·rw [az_4] at e;exact Nat.le_of_eq e
def rng1:List D->R (List D)
 | [.int j]=>if j.natAbs < 4611686018427387904 then .ok (p_5 0 j.toNat) else .no
 |_=> .no
def Ew(k:List D->R (List D))(fa:FA):FI:=λ δ=>(fa δ).bind k
theorem ah_8(hm:X.mg "range" =none)(ha:AD X EX [a] fa)(hg:Gl X "range" :=by rfl)(hs:starEach [a] X.env= [(false,eval a X.env)]:=by rfl):ID X EX tg (.Call (.Name "range" p) [a] [] pos) (Ew rng1 fa):=
 PI.imp (cd_4 hg hm ha hs) λ σ H Q ⟨G,δ,g0,s0,o⟩=>tDa.seqI g0 s0 o λds vs G' H' st r o'=>by
  cases r with
  |nil=>exact False.elim o'
  |cons h t=>
   cases t with
   |cons _ _=>cases h <;> exact False.elim o'
   |nil=>
    cases h with
    |int j=>
     by_cases hc:j.natAbs < 4611686018427387904
     ·rw [show rng1 [.int j]=.ok (p_5 0 j.toNat) from if_pos hc] at o';exact⟨j,rfl,by omega,by omega,o' _ G' H' (Step.refl st.gh) (cf_5 0 j.toNat)⟩
     ·rw [show rng1 [.int j]=.no from if_neg hc] at o';exact o'.elim
    |_=>exact False.elim o'
def s_6(x:Str):List D:=x.cps.toList.map λc=> .str ⟨#[c]⟩
def Er:D->R (List D)
 | .lst ds=> .ok ds
 | .tup ds=> .ok ds
 | .str x=> .ok (s_6 x)
 |_=> .no
def Es(f:FE):FI:=λ δ=>(f δ).bind λw=>Er w.d
def iAny(K:Frag)(tl:TE):TI:=λ σ H Q=>tl σ H λx H1=>
 (∃a,x=.ref a/\(∃xs,SqL K H1 a xs)/\Q (Itl K a) H1)\/(∃a,x=.ref a/\(∃xs,SqT K H1 a xs)/\Q (Itt K a) H1)\/(∃z,x=.str z/\Q (cm_6 z) H1)
theorem dk_6{l:Expr}{tl:TE}(hl:PE X l tl):PI X tg l (iAny X.K tl):=by
 intro zd s σ H Q I h;refine Aw (hl zd s σ H _ I h) λv s1 ⟨x,H1,I1,r1,q1⟩=> ?_;rcases q1 with⟨a,e,⟨xs,hq⟩,q⟩|⟨a,e,⟨xs,hq⟩,q⟩|⟨z,e,q⟩
 ·subst e;cases r1;obtain⟨its,rv,p,hz⟩:=I1.list hq;refine wpAny_pyIter_list p.isList ?_;refine⟨s1.heap.objs.size,[s1.heap.objs.size],_,_,H1,rfl,I1.kept (t':=s1.toks) λb o e=>Heap.get?_push_of_some _ e,cd_3 a _,⟨_,Heap.get?_push_size _ rfl,rfl,rfl⟩,λb hb=> ?_,q⟩;have e:b=s1.heap.objs.size:=by simpa using hb
  subst e;exact I1.fpOk (Nat.le_refl _) (I1.hok.fresh (Nat.le_refl _))
 ·subst e;cases r1;obtain⟨its,rv,p,hz⟩:=I1.tuple hq;refine wpAny_pyIter_tuple (show s1.heap.IsTuple a its.toArray from p) ?_;refine⟨s1.heap.objs.size,[s1.heap.objs.size],_,_,H1,rfl,I1.kept (t':=s1.toks) λb o e=>Heap.get?_push_of_some _ e,bq_7 a _,⟨_,Heap.get?_push_size _ rfl,rfl,rfl⟩,λb hb=> ?_,q⟩;have e:b=s1.heap.objs.size:=by simpa using hb
  subst e;exact I1.fpOk (Nat.le_refl _) (I1.hok.fresh (Nat.le_refl _))
 ·subst e;obtain⟨t,rfl⟩:=r1;have fin:∀(nm:String) (St:Nat->Heap->Prop),(∀i h,St i h↔h.IsStrIter s1.heap.objs.size nm z t i)->(∀A':Around,A'.handled=none->Walks X.prog X.w A' s1.heap.objs.size [s1.heap.objs.size] [s1.heap.objs.size] z.cps.size (SignAt z) St)->
    ["enumerate","zip","dict_itemiterator","dict_reverseitemiterator","odict_iterator","itertools.zip_longest","itertools.pairwise"].contains nm=false->
    (∀(A:Around) (i:Nat) (s:Shared) (Q E:Value->Shared->Prop),s.heap.IsStrIter s1.heap.objs.size nm z t i->Q (.ref s1.heap.objs.size) s->wpAny (model X.prog X.w) A (pyIter (.ref s1.heap.objs.size)) Q E s)->
    PIE X zd σ tg Q (.ref s1.heap.objs.size) {s1 with heap:=s1.heap.push {cls:=.type nm,data:=.fields #[.str z t,.int 0 0]}}:=by
   intro nm St hS W hn hslf;refine⟨s1.heap.objs.size,[s1.heap.objs.size],St,cm_6 z,H1,rfl,I1.kept (t':=s1.toks) λb o e=>Heap.get?_push_of_some _ e,
    bs_9 W (λi h st=> ?_) (λi h h' st k=> ?_) (λA i s Q E st h=>hslf A i s Q E ((hS _ _).mp st) h) (λi H g=>g) (λi H g=> ?_) (λi H u hu=> ?_),(hS _ _).mpr ⟨_,Heap.get?_push_size _ rfl,rfl,rfl⟩,λb hb=> ?_,q⟩
   ·obtain⟨o,ho,hc,hd⟩:=(hS _ _).mp st;exact⟨o,nm,_,ho,hc,hd,hn⟩
   ·obtain⟨o,ho,r⟩:=(hS _ _).mp st;exact(hS _ _).mpr ⟨o,k _ (by simp) o ho,r⟩
   ·exact g
   ·obtain⟨c,u',e1,e2⟩:=hu;subst e2;exact⟨.str ⟨#[c]⟩,⟨u',rfl⟩,rfl,c,e1,rfl⟩
   ·have e:b=s1.heap.objs.size:=by simpa using hb
    subst e;exact I1.fpOk (Nat.le_refl _) (I1.hok.fresh (Nat.le_refl _))
  cases ha:z.cps.all (· < 128)
  ·exact wpAny_pyIter_wide ha (fin "str_iterator" _ (λ_ _=>Iff.rfl) (λA' hA=>Walks.strWide hA _ z t) (by decide) λA i s Q E st h=>wpAny_pyIter_striter_wide st h)
  ·exact wpAny_pyIter_ascii ha (fin "str_ascii_iterator" _ (λ_ _=>Iff.rfl) (λA' hA=>Walks.strAscii hA _ z t) (by decide) λA i s Q E st h=>wpAny_pyIter_striter_ascii st h)
theorem cm_7{G:Hp}{a:Addr}{vs:List V}{ds:List D}(h:SqL K G a vs)(r:HasL K G vs ds):ItD K G (Itl K a) ds:=λG' H g1 g i=>by
 refine⟨λd e=> ?_,λe=> ?_⟩
 ·obtain⟨v,e1,hv⟩:=r.get e;refine⟨⟨vs,v,(g1.trans g).seq h,e1⟩,λx H' y=> ?_⟩;obtain⟨e2,y⟩:=y;subst e2;have e3:=y vs ((g1.trans g).seq h);rw [e1] at e3;cases e3;exact⟨G',Step.refl g,hv.mono g1⟩
 ·exact⟨vs,(g1.trans g).seq h,by rw [r.length];exact Nat.le_of_eq e⟩
theorem cx_9{G:Hp}{a:Addr}{vs:List V}{ds:List D}(h:SqT K G a vs)(r:HasL K G vs ds):ItD K G (Itt K a) ds:=λG' H g1 g i=>by
 refine⟨λd e=> ?_,λe=> ?_⟩
 ·obtain⟨v,e1,hv⟩:=r.get e;refine⟨⟨vs,v,Same.tupS (g1.trans g) h,e1⟩,λx H' y=> ?_⟩;obtain⟨e2,y⟩:=y;subst e2;have e3:=y vs (Same.tupS (g1.trans g) h);rw [e1] at e3;cases e3;exact⟨G',Step.refl g,hv.mono g1⟩
 ·exact⟨vs,Same.tupS (g1.trans g) h,by rw [r.length];exact Nat.le_of_eq e⟩
theorem cy_0{G:Hp}(z:Str):ItD K G (cm_6 z) (s_6 z):=λG' H g1 g i=>by
 refine⟨λd e=> ?_,λe=> ?_⟩
 ·unfold s_6 at e;rw [List.getElem?_map] at e;cases q:z.cps.toList[i]? with
  |none=>rw [q] at e;cases e
  |some c=>
   rw [q] at e;cases e;have hi:i < z.cps.size:=by
    have:=(List.getElem?_eq_some_iff.mp q).1;simpa using this
   refine⟨hi,λx H' y=> ?_⟩;obtain⟨e2,c',e3,e4⟩:=y;subst e2 e4;have:z.cps.toList[i]? =some c':=by simpa using e3
   rw [q] at this;cases this;exact⟨G',Step.refl g,.str _⟩
 ·unfold s_6 at e;rw [List.length_map] at e;show i=z.cps.size;simp at e;omega
theorem ae_4(he:ED X EX e f):ID X EX tg e (Es f):=
 PI.imp (dk_6 he) λ σ H Q ⟨G,δ,g0,s0,o⟩=>by
  refine⟨G,δ,g0,s0, ?_⟩;unfold Es at o;cases e1:f δ with
  |ok w=>
   rw [e1] at o;simp only [R.bind_ok] at o;refine WP.intro λv G' H' st r=> ?_;revert r o;cases w.d with
   |lst ds=>
    intro o r;cases r with
    |lst h r=>exact .inl ⟨_,rfl,⟨_,st.gh.seq h⟩,o _ G' H' st (cm_7 h r)⟩
   |tup ds=>
    intro o r;cases r with
    |tup h r=>exact .inr (.inl ⟨_,rfl,⟨_,Same.tupS st.gh h⟩,o _ G' H' st (cx_9 h r)⟩)
   |str z=>
    intro o r;cases r;exact .inr (.inr ⟨z,rfl,o _ G' H' st (cy_0 z)⟩)
   |_=>intro o _;exact False.elim o
  |ex x=>rw [e1] at o;exact o
  |no=>rw [e1] at o;exact o
end
abbrev FG:=D->SE->R SE
def tG(K:Frag)(EX:Ay)(fg:FG):TG:=λv σ H Q=>∃H0 G0 G Δ O d,Ev K H0 G0 G H σ Δ O/\Has K G v d/\match fg d Δ with
 | .ok Δ'=>∀σ' G' H' O',Ev K H0 G0 G' H' σ' Δ' O'->Same G G'->Q σ' H'
 | .ex _=>False
 | .no=>False
theorem PG.imp{tg:Expr}{t t':TG}(h:PG X tg t)(i:∀v σ H Q,t' v σ H Q->t v σ H Q):PG X tg t':=λzd s σ H v u Q I r q=>h zd s σ H v u Q I r (i v σ H Q q)
abbrev GD(X:Cx)(EX:Ay)(tg:Expr)(fg:FG):Prop:=PG X tg (tG X.K EX fg)
section
variable{X:Cx}{EX:Ay}{pos:Pos}
def gV(i:Nat):FG:=λd Δ=> .ok (Δ.set i (.sh d))
theorem ao_2{i:Nat}{x:Str}(hN:X.N.Nodup)(hi:X.N[i]? =some x:=by rfl)(hx:Fb X.env.scope x:=by first|exact Or.inl rfl|exact Or.inr rfl)
  (hf:X.fn x=true\/X.env.scope.names.lookup x=some .local:=by first|exact .inl rfl|exact .inr rfl|assumption):GD X EX (.Name x pos) (gV i):=
 PG.imp (l_6 hN hi hx hf) λv σ H Q ⟨H0,G0,G,Δ,O,d,E,r,q⟩=>q _ G H O (E.put r) (Same.refl _)
def gV2(i j:Nat):FG:=λd Δ=>match d with
 | .tup [a,b]=> .ok ((Δ.set i (.sh a)).set j (.sh b))
 |_=> .no
theorem be_3{i j k:Nat}{x y:Str}{p1 p2:Pos}(hc:X.calm=true)(hN:X.N.Nodup)(hi:X.N[i]? =some x:=by rfl)(hj:X.N[j]? =some y:=by rfl)(hx:Fb X.env.scope x:=by first|exact Or.inl rfl|exact Or.inr rfl)(hy:Fb X.env.scope y:=by first|exact Or.inl rfl|exact Or.inr rfl)
  (hf:X.fn x=true\/X.env.scope.names.lookup x=some .local:=by first|exact .inl rfl|exact .inr rfl|assumption) (hf2:X.fn y=true\/X.env.scope.names.lookup y=some .local:=by first|exact .inl rfl|exact .inr rfl|assumption)
  (hn:(assignEach [.Name x p1,.Name y p2] X.env).length=2:=by rfl) (hst:(assignEach [.Name x p1,.Name y p2] X.env).findIdx? (·.1)=none:=by rfl)
  (hs:(assignEach [.Name x p1,.Name y p2] X.env).map (·.2)=assign (.Name x p1) X.env::(assignEach [.Name y p2] X.env).map (·.2):=by rfl) (hs2:(assignEach [.Name y p2] X.env).map (·.2)=assign (.Name y p2) X.env::(assignEach [] X.env).map (·.2):=by rfl):
  GD X EX (.Tuple [.Name x p1,.Name y p2] k pos) (gV2 i j):=
 PG.imp (bq_5 hc (l_1 (l_6 hN hi hx hf) (l_1 (l_6 hN hj hy hf2) ad_7 hs2) hs) hn hst) λv σ H Q ⟨H0,G0,G,Δ,O,d,E,r,q⟩=>by
  cases r with
  |tup h r=>
   cases r with
   |nil=>exact False.elim q
   |cons r1 r=>
    cases r with
    |nil=>exact False.elim q
    |cons r2 r=>
     cases r with
     |nil=>exact⟨_,_,rfl,Same.tupS E.st.gh h,rfl,_,_,rfl,_,_,rfl,rfl,q _ G H O ((E.put r1).put r2) (Same.refl _)⟩
     |cons _ _=>exact False.elim q
  |_=>exact False.elim q
def Dw(fg:FG)(g:FS):List D->FS
 | []=>λ Δ=> .nx Δ
 |d::ds=>λ Δ=>match fg d Δ with
  | .ok Δ1=>(match g Δ1 with
   | .nx Δ2=>Dw fg g ds Δ2
   | .ct Δ2=>Dw fg g ds Δ2
   | .bk Δ2=> .nx Δ2
   |r=>r)
  | .ex _=> .no
  | .no=> .no
def Du(js:List Nat)(fi:FI)(fg:FG)(g:FS):FS:=λ Δ=>match fi (As Δ) with
 | .ok ds=>Dw fg g ds Δ
 | .ex x=> .ex x Δ
 | .no=>match fi (As (gsome js Δ)) with
  | .ok ds=>Dw fg g ds (gsome js Δ)
  | .ex x=> .ex x (gsome js Δ)
  | .no=> .no
theorem x_5{α:Type}{l:List α}{i:Nat}(h:i < l.length):∃x,l[i]? =some x/\l.drop i=x::l.drop (i + 1):=⟨l[i],by simp [h],List.drop_eq_getElem_cons h⟩
theorem p_9{fg:FG}{g:FS}{H0:HB}{G0 G1 H1:Hp}{J:It}{ds:List D}{Δ:SE}{O:OS}{σ:Sg}{D:Ends}(E:Ev K H0 G0 G1 H1 σ Δ O)(it:ItD K G1 J ds)(q:Fin K EX H0 G0 G1 D (Dw fg g ds Δ)):
  ∃W:Nat->Nat->Sg->Hp->Prop,(∃m,W 0 m σ H1)/\∀i m σ H,W i m σ H->
   (J.stop i H/\D.nx σ H)\/(J.go i H/\∃N:Sg->Hp->Prop,(∀σ' H',N σ' H'->∃m',m' < m/\W (i + 1) m' σ' H')/\∀x H',J.yld i H x H'->tG K EX fg x σ H' λ σ2 H2=>tS K EX g {D with nx:=N,ct:=N,bk:=D.nx} σ2 H2):=by
 refine⟨λi m σ H=>m=ds.length - i/\i<=ds.length/\∃G Δ O,Ev K H0 G0 G H σ Δ O/\Same G1 G/\Fin K EX H0 G0 G1 D (Dw fg g (ds.drop i) Δ),⟨ds.length,by simp,Nat.zero_le _,G1,Δ,O,E,Same.refl _,q⟩, ?_⟩
 rintro i m σ H ⟨rfl,hi,G,Δ,O,E,sg,q⟩
 obtain⟨i1,i2⟩:=it G H sg E.st.gh i
 by_cases hlt:i < ds.length
 ·obtain⟨d,e1,e2⟩:=x_5 hlt;obtain⟨go,yl⟩:=i1 d e1;refine .inr ⟨go,λ σ' H'=>∃G Δ O,Ev K H0 G0 G H' σ' Δ O/\Same G1 G/\Fin K EX H0 G0 G1 D (Dw fg g (ds.drop (i + 1)) Δ),λ σ' H' w=>⟨ds.length - (i + 1),by omega,rfl,hlt,w⟩,λx H' y=> ?_⟩;obtain⟨G',st,hx⟩:=yl x H' y;rw [e2] at q;refine⟨H0,G0,G',Δ,O,d,E.grow st,hx, ?_⟩;have q':Fin K EX H0 G0 G1 D (match fg d Δ with
   | .ok Δ1=>(match g Δ1 with
    | .nx Δ2=>Dw fg g (ds.drop (i + 1)) Δ2
    | .ct Δ2=>Dw fg g (ds.drop (i + 1)) Δ2
    | .bk Δ2=> .nx Δ2
    |r=>r)
   | .ex _=> .no
   | .no=> .no):=q
  cases e3:fg d Δ with
  |ok Δ1=>
   rw [e3] at q';intro σ2 G2 H2 O2 E2 s2;have s12:Same G1 G2:=sg.trans (st.gg.trans s2);refine⟨H0,G0,G2,Δ1,O2,E2, ?_⟩;cases e4:g Δ1 with
   |nx Δ2=>simp only [e4] at q';exact λ σ3 G3 H3 O3 E3 s3=>⟨G3,Δ2,O3,E3,s12.trans s3,q'⟩
   |ct Δ2=>simp only [e4] at q';exact λ σ3 G3 H3 O3 E3 s3=>⟨G3,Δ2,O3,E3,s12.trans s3,q'⟩
   |bk Δ2=>simp only [e4] at q';exact λ σ3 G3 H3 O3 E3 s3=>q' σ3 G3 H3 O3 E3 (s12.trans s3)
   |rt w=>simp only [e4] at q';exact q'
   |rv d Δ2=>simp only [e4] at q';exact λv σ3 G3 H3 O3 E3 s3=>q' v σ3 G3 H3 O3 E3 (s12.trans s3)
   |ex x Δ2=>simp only [e4] at q';exact λ σ3 G3 H3 O3 E3 s3=>q' σ3 G3 H3 O3 E3 (s12.trans s3)
   |no=>simp only [e4] at q';exact q'
  |ex x=>rw [e3] at q';exact q'
  |no=>rw [e3] at q';exact q'
 ·have e:ds.length=i:=by omega
  refine .inl ⟨i2 e, ?_⟩;rw [List.drop_eq_nil_of_le (by omega)] at q;exact q σ G H O E sg
theorem ai_0{tg iter:Expr}{body:List Stmt}{fi:FI}{fg:FG}{g:FS}(js:List Nat)(hp:PassesOwn (model X.prog X.w) X.A X.env X.xe)(hc:X.calm=true)(hi:ID X EX tg iter fi)(hg:GD X EX tg fg)(hb:BD X EX body g)
  (hs:∀x,foldedSetIterable iter X.env x=pure x:=by intro _;rfl):SD X EX (.For tg iter body [] pos) (Du js fi fg g):=
 PS.imp (bq_9 hp hc hi hg hb hs) λD σ H ⟨H0,G0,G,Δ,O,E,q⟩=>by
  unfold Du at q;cases e1:fi (As Δ) with
  |ok ds=>
   rw [e1] at q;refine⟨G,As Δ,E.st.gh,E.gsh, ?_⟩;rw [e1];exact λJ G' H' st it=>p_9 (E.grow st) it (Fin.mono st.gg q)
  |ex x=>
   rw [e1] at q;exact⟨G,As Δ,E.st.gh,E.gsh,by rw [e1];exact q σ G H O E (Same.refl _)⟩
  |no=>
   rw [e1] at q;obtain⟨G1,O1,sg,E1⟩:=E.gsome js;refine⟨G1,As (gsome js Δ),E1.st.gh,E1.gsh, ?_⟩;cases e2:fi (As (gsome js Δ)) with
   |ok ds=>
    simp only [e2] at q;exact λJ G' H' st it=>p_9 (E1.grow st) it (Fin.mono (sg.trans st.gg) q)
   |ex x=>simp only [e2] at q;exact q σ G1 H O1 E1 sg
   |no=>simp only [e2] at q;exact q
def sApp(i:Nat)(f:FE):FS:=λ Δ=>match Δ[i]? with
 |some (.ow (.lst ds))=>if ds.length < 16777216 then(match f (As Δ) with
   | .ok w=> .nx (Δ.set i (.ow (.lst (ds ++ [w.d]))))
   | .ex x=> .ex x Δ
   | .no=>match f (Bb Δ) with
    | .ok w=>if Bn w.d=true then .nx (Δ.set i (.ow (.lst (ds ++ [w.d])))) else .no
    |_=> .no) else .no
 |_=> .no
theorem bt_0{i:Nat}{x:Str}{e:Expr}{f:FE}{p1 zg zf:Pos}(he:ED X EX e f)(hN:X.N[i]? =some x:=by rfl)(hv:Fu X.env.scope x:=by first|exact Or.inl rfl|exact Or.inr (Or.inl rfl)|exact Or.inr (Or.inr rfl))(hd:(x ==("__debug__" :Str))=false:=by decide)
  (hcd:(x ==("__classdict__" :Str))=false:=by decide) (hsw:swapsWith (.Call (.Attribute (.Name x p1) "append" zg) [e] [] zf) none pos.line X.env=pure false:=by rfl)
  (af:attributeBase (.Name x p1) "append" X.env (eval (.Name x p1) X.env)=eval (.Name x p1) X.env:=by rfl)
  (ba:((backTo zf (starEach [e] X.env)).all (λx=> !x.1) && (backToKw zf (keywordEach [] X.env)).all (λx=>x.1.isSome)
   && decide ([e].length + ([]:List Keyword).length + (if([]:List Keyword).isEmpty then 0 else 1) < 30))=true:=by rfl)
  (ag:(zg.endLine ==zf.line)=true:=by rfl) (hs:starEach [e] X.env=(false,eval e X.env)::starEach [] X.env:=by rfl) (ah:(backTo zf (starEach [] X.env)).any (·.1)=false:=by rfl):
  SD X EX (.Expr (.Call (.Attribute (.Name x p1) "append" zg) [e] [] zf) pos) (sApp i f):=
 PS.imp (u_8 (bx_2 PySem.F.plainAttrs_list PySem.F.slot_list_append PySem.F.type_list_append ag_9 (Ft hN hv hd hcd) (i_7 he o_9 hs) af ba ag hs ah) hsw) λD σ H ⟨H0,G0,G,Δ,O,E,q⟩=>by
  unfold sApp at q
  split at q
  ·rename_i ds e1
   split at q
   ·rename_i hz;obtain⟨v0,s1,t⟩:=E.ow i _ _ e1 rfl;obtain⟨a,vs,rfl,m,hH,rl⟩:=t.list_of
    ·skip
     refine⟨.ref a,s1,.inl ⟨rfl,_,SqL.of hH⟩, ?_⟩;have fin:∀{G' H':Hp} {v:V} {d:L3.D},Ev X.K H0 G0 G' H' σ Δ O->Same G G'->H' a=some (.lst vs)->HasL X.K G' vs ds->Has X.K G' v d->Fin X.K EX H0 G0 G D (.nx (Δ.set i (.ow (.lst (ds ++ [d])))))->
       bd_4 (.ref a) [v] H' λ_ H1=>D.nx σ H1:=λ{G' H' v d} E' sg hH' r' hv' q'=>
      ⟨a,vs,v,rfl,rfl,hH',by rw [r'.length,sizeLine_eq];exact hz,q' σ G' _ _ (E'.writeL s1 m (r'.append (.cons hv' .nil))) sg⟩
     cases e2:f (As Δ) with
     |ok w=>
      simp only [e2] at q;refine⟨G,As Δ,E.st.gh,E.gsh, ?_⟩;rw [e2];exact WP.intro λv G' H' st r=>fin (E.grow st) st.gg (st.hh _ _ hH) (rl.mono st.gg) r q
     |ex x=>
      simp only [e2] at q;exact⟨G,As Δ,E.st.gh,E.gsh,by rw [e2];exact q σ G H O E (Same.refl _)⟩
     |no=>
      simp only [e2] at q;refine⟨x_4 G H O,Bb Δ,E.aH,E.gall, ?_⟩;cases e3:f (Bb Δ) with
      |ok w=>
       simp only [e3] at q
       split at q
       ·rename_i fl;exact WP.intro λv G' H' st r=>fin (E.keep st.hh) (Same.refl _) (st.hh _ _ hH) rl (r.ofFl fl) q
       ·exact q.elim
      |ex x=>simp only [e3] at q;exact q.elim
      |no=>simp only [e3] at q;exact q
   ·exact q.elim
  ·exact q.elim
end
def Cj(X:Cx)(scope:Scope)(cl:List (Str×Addr))(N':List Str)(C:Addr)(s0:Shared)(H0:Hp)(fp:List Addr)(pn:List (Addr×Obj)):Cx where
 prog:=X.prog
 w:=X.w
 K:=X.K
 mg:=X.mg
 base:=X.base
 A:=X.A
 N:=N'
 s₀:=s0
 H₀:=H0
 env:=compEnvC scope cl C X.env
 outer:=X.stack
 stack:=X.stack
 ex:=fp
 fn:=λ_=>false
 calm:=X.calm
 pn:=pn
 xe:=λ_ _=>False
abbrev Eu:=D->DE->R DE
def tGc(K:Frag)(EX:Ay)(fg:Eu):TG:=λv σ H Q=>∃G δ d,Same G H/\HasS K G σ δ/\Has K G v d/\match fg d δ with
 | .ok δ'=>∀σ',HasS K G σ' δ'->HasS K G σ' δ->Q σ' H
 | .ex x=>(EX σ).p x G H
 | .no=>False
abbrev GC(X:Cx)(EX:Ay)(tg:Expr)(fg:Eu):Prop:=PG X tg (tGc X.K EX fg)
def CTs(X:Cx)(EX:Ay)(ifs:List Expr)(p:FT):Prop:=
 ∀(zd:List (Addr×Obj)) (s:Shared) (σ:Sg) (H:Hp) (Q:Bool->Hp->Prop),Inv X zd σ H s->tDt X.K EX p σ H Q->
  wpAny (model X.prog X.w) X.A (forIn ifs true λc r=>if r=true then do let ok<-isTrue c X.env (eval c X.env);pure (ForInStep.yield ok) else pure (ForInStep.yield r)) (TP X zd σ Q) X.xe s
section
variable{X:Cx}{EX:Ay}{pos:Pos}
def gC(i:Nat):Eu:=λd δ=>match δ[i]? with
 |some none=> .ok (δ.set i (some d))
 |_=> .no
theorem HasS.put{G:Hp}{σ:Sg}{δ:DE}{d:D}(h:HasS K G σ δ)(r:Has K G v d)(i:Nat):HasS K G (σ.set i (some v)) (δ.set i (some d)):=by
 refine⟨by rw [List.length_set,List.length_set];exact h.len,λj d' e=> ?_⟩;rcases Fd e with⟨rfl,q⟩|⟨n,q⟩
 ·cases q;have hlt:i < δ.length:=by
   by_cases hh:i < δ.length
   ·exact hh
   ·rw [List.getElem?_eq_none (by rw [List.length_set];omega)] at e;cases e
  exact⟨v,by rw [List.getElem?_set_self (by rw [h.len];exact hlt)],r⟩
 ·obtain⟨v',e1,r'⟩:=h.get j d' q;exact⟨v',by rw [List.getElem?_set_ne n];exact e1,r'⟩
theorem cy_1{i:Nat}{x:Str}(hN:X.N.Nodup)(hi:X.N[i]? =some x:=by rfl)(hx:Fb X.env.scope x:=by first|exact Or.inl rfl|exact Or.inr rfl)
  (hf:X.fn x=true\/X.env.scope.names.lookup x=some .local:=by first|exact .inl rfl|exact .inr rfl|assumption):GC X EX (.Name x pos) (gC i):=
 PG.imp (l_6 hN hi hx hf) λv σ H Q ⟨G,δ,d,g,s,r,q⟩=>by
  unfold gC at q;cases e:δ[i]? with
  |none=>rw [e] at q;exact q.elim
  |some o=>
   rw [e] at q;cases o with
   |some _=>exact q.elim
   |none=>
    refine q _ (s.put r i) ⟨by rw [List.length_set];exact s.len,λj d' e'=> ?_⟩;obtain⟨v',e1,r'⟩:=s.get j d' e';refine⟨v', ?_,r'⟩;rw [List.getElem?_set_ne]
    ·exact e1
    ·rintro rfl
     rw [e] at e';cases e'
theorem ar_1:CTs X EX [] (λ_=> .ok true):=λzd s σ H Q I ⟨G,δ,g,h,q⟩=>wpAny_tests_nil ⟨H,I,q G H (Step.refl g)⟩
theorem bt_1{c:Expr}{p:FT}(h:TD X EX c p):CTs X EX [c] p:=λzd s σ H Q I q=>wpAny_tests_one (h zd s σ H Q I q)
def m_6(fg:Eu)(p:FT)(f:FE)(δ:DE):List D->R (List D)
 | []=> .ok []
 |d::ds=>(fg d δ).bind λ δ1=>(p δ1).bind λb=>if b=true then(f δ1).bind λw=>(m_6 fg p f δ ds).bind λrs=> .ok (w.d::rs) else m_6 fg p f δ ds
def R.calm{α:Type}:R α->R α
 | .ok w=> .ok w
 |_=> .no
@[simp] theorem R.calm_ok{α:Type}(a:α):(R.ok a).calm=.ok a:=rfl
@[simp] theorem R.calm_ex{α:Type}(x:Xn):(R.ex x:R α).calm=.no:=rfl
@[simp] theorem R.calm_no{α:Type}:(R.no:R α).calm=.no:=rfl
def Cc(m:Nat)(fi:FI)(fg:Eu)(p:FT)(f:FE):FE:=λ δ=>((fi δ).bind λds=>if ds.length<=16777216 then(m_6 fg p f (δ ++ List.replicate m none) ds).bind λrs=> .ok (.ow (.lst rs)) else .no).calm
theorem R.calm_never{α:Type}{r:R α}{x:Xn}(h:r.calm=.ex x):False:=by
 cases r <;> cases h
theorem ae_5{m:Nat}{fi:FI}{fg:Eu}{p:FT}{f:FE}{δ:DE}{x:Xn}(h:Cc m fi fg p f δ=.ex x):False:=R.calm_never h
@[reducible] def dk_7(prog:Program)(w:World)(A:Around)(env:Env)(tg elt:Expr)(ifs:List Expr)(it zp:Value)(bad:Value->Shared->Prop)(fin more:Shared->Prop):Option Value->Shared->Prop
 |none=>fin
 |some v=>wpAny (model prog w) A (letOwnedTupleGo tg it v) (λ_=>wpAny (model prog w) A (assign tg env v) (λ_=>
   wpAny (model prog w) A (forIn ifs true λc r=>if r=true then do let ok<-isTrue c env (eval c env);pure (ForInStep.yield ok) else pure (ForInStep.yield r)) (λok=>
    if ok=true then wpAny (model prog w) A (eval elt env) (λx=>wpAny (model prog w) A (call (.builtin "list.append") [zp,x]) (λ_=>more) bad) bad else more) bad) bad) bad
theorem bt_2{prog:Program}{w:World}{A:Around}{R:Result->Shared->Prop}{s:Shared}{elt target iter:Expr}{ifs:List Expr}{scope:Scope}{it zp:Value}{env:Env}(I:Nat->Shared->Prop)
  (turn:∀n s,I n s->wpAny (model prog w) A (pyNext it) (dk_7 prog w A env target elt ifs it zp (notedBy (model prog w) A env λe=>R (.error e)) (R (.ok .next)) λs'=>∃m,m < n/\I m s') (notedBy (model prog w) A env λe=>R (.error e)) s)
  (n:Nat) (h:I n s):codeAny (model prog w) A (.compLoop (.ListComp elt [⟨target,iter,ifs,0⟩] scope pos) 0 it zp env) R s:=by
 refine codeAny_loop rfl I (λk t hk=>wpAny_noted (env:=env) (m:=compTurn (.ListComp elt [⟨target,iter,ifs,0⟩] scope pos) 0 it zp env) (compTurn_list .. ▸ ?_)) n h;refine wpAny_bind (wpAny_standAt (wpAny_bind (Aw (turn k t hk) ?_)))
 rintro (_|v) t1 g1
 ·exact wpAny_pure g1
 refine wpAny_bind (Aw g1 λ_ t2 g2=>wpAny_bind (Aw g2 λ_ t3 g3=>wpAny_bind (Aw g3 ?_)))
 rintro (_|_) t4 g4
 ·exact wpAny_pure ⟨rfl,g4⟩
 ·exact wpAny_bind (wpAny_bind (Aw g4 λ_ t5 g5=>wpAny_bind (Aw g5 λ_ t6 g6=>wpAny_pure (wpAny_pure ⟨rfl,g6⟩))))
structure CompN(X:Cx)(scope:Scope)(cl:List (Str×Addr))(N':List Str):Prop where
 clos:closureFor scope X.env=pure cl
 cell:∀y∈scope.names,y.2≠ .cell
 kind:scope.kind=.function
 names:∀y∈scope.names,y.2=.local->scope.names.lookup y.1=some .local
 sub:∀x c,cl.lookup x=some c->X.env.cells.lookup x=some c
 has:∀x,((relabel scope X.env).names.lookup x=some .cell\/(relabel scope X.env).names.lookup x=some .free)->∃c,cl.lookup x=some c
 old:∀(i:Nat) (x:Str),N'[i]? =some x->i < X.N.length->Fu (relabel scope X.env) x->X.N[i]? =some x/\(X.env.scope.names.lookup x=some .cell\/X.env.scope.names.lookup x=some .free)/\(∃c,cl.lookup x=some c)/\((relabel scope X.env).names.lookup x=some .cell\/(relabel scope X.env).names.lookup x=some .free)
def Bw(cells:List (Str×Addr)):List (Str×NameKind)->List (Str×Addr)->List (Str×Addr)
 | [],zp=>zp
 |(x,k)::r,zp=>Bw cells r (if k=.free then(x,(cells.lookup x).getD 0)::zp else zp)
theorem aw_8{scope:Scope}{env:Env}(h:∀p∈scope.names,p.2=.free->∃c,env.cells.lookup p.1=some c):closureFor scope env=pure (Bw env.cells scope.names []):=by
 have all:∀(names:List (Str×NameKind)) (zp:List (Str×Addr)),(∀p∈names,p.2=.free->∃c,env.cells.lookup p.1=some c)->
   (forIn names zp λ(x:Str×NameKind) (r:List (Str×Addr))=>if(x.2 == .free)=true then do let a<-cellOf env x.1;pure (ForInStep.yield ((x.1,a)::r)) else pure (ForInStep.yield r):Sem (List (Str×Addr)))=pure (Bw env.cells names zp):=by
  intro names
  induction names with
  |nil=>intro zp _;rfl
  |cons p r ih=>
   intro zp hp;obtain⟨x,k⟩:=p;rw [List.forIn_cons]
   by_cases hk:k=.free
   ·subst hk;obtain⟨c,e⟩:=hp (x,.free) List.mem_cons_self rfl;have e1:cellOf env x=pure c:=by unfold cellOf;rw [show env.cells.lookup x=some c from e]
    simp only [beq_self_eq_true,if_true,e1,pure_bind];rw [ih _ λq hq=>hp q (List.mem_cons_of_mem _ hq)];show _=pure (Bw env.cells r (if NameKind.free=.free then(x,(env.cells.lookup x).getD 0)::zp else zp));rw [if_pos rfl,show env.cells.lookup x=some c from e];rfl
   ·have hb:(k ==NameKind.free)=false:=by simpa using hk
    simp only [hb,Bool.false_eq_true,if_false,pure_bind];rw [ih _ λq hq=>hp q (List.mem_cons_of_mem _ hq)];show _=pure (Bw env.cells r (if k=.free then(x,(env.cells.lookup x).getD 0)::zp else zp));rw [if_neg hk]
 unfold closureFor;have:=all scope.names [] h;simpa using this
theorem bj_9{cells:List (Str×Addr)}{q:Str×Addr}:∀{names:List (Str×NameKind)} {zp:List (Str×Addr)},q∈Bw cells names zp->q∈zp\/((q.1,NameKind.free)∈names/\q.2=(cells.lookup q.1).getD 0)
 | [],zp,h=> .inl h
 |(x,k)::r,zp,h=>by
  rcases bj_9 (names:=r) h with h|⟨h1,h2⟩
  ·split at h
   ·rename_i hk;rcases List.mem_cons.mp h with rfl|h
    ·exact .inr ⟨by rw [hk];exact List.mem_cons_self,rfl⟩
    ·exact .inl h
   ·exact .inl h
  ·exact .inr ⟨List.mem_cons_of_mem _ h1,h2⟩
theorem bk_0{cells:List (Str×Addr)}{x:Str}:∀{names:List (Str×NameKind)} {zp:List (Str×Addr)},(zp.lookup x).isSome=true->((Bw cells names zp).lookup x).isSome=true
 | [],zp,h=>h
 |(y,k)::r,zp,h=>by
  refine bk_0 (names:=r) ?_
  split
  ·rw [List.lookup_cons]
   split
   ·rfl
   ·exact h
  ·exact h
theorem bk_1{cells:List (Str×Addr)}{x:Str}:∀{names:List (Str×NameKind)} {zp:List (Str×Addr)},(x,NameKind.free)∈names->((Bw cells names zp).lookup x).isSome=true
 |(y,k)::r,zp,h=>by
  rcases List.mem_cons.mp h with h|h
  ·cases h;refine bk_0 (names:=r) ?_;rw [if_pos rfl,List.lookup_cons];simp
  ·exact bk_1 (names:=r) h
theorem q_8{env:Env}:∀(names:List (Str×NameKind)) (x:Str),
  (names.map λ(n,k)=>if(k ==NameKind.free && env.scope.kind == .function && env.kindOf n ==some .cell) then(n,NameKind.cell) else(n,k)).lookup x=(names.lookup x).map λk=>if(k ==NameKind.free && env.scope.kind == .function && env.kindOf x ==some .cell)=true then NameKind.cell else k
 | [],x=>rfl
 |(n,k)::r,x=>by
  have ih:=q_8 (env:=env) r x;show List.lookup x ((if(k ==NameKind.free && env.scope.kind == .function && env.kindOf n ==some .cell)=true then(n,NameKind.cell) else(n,k))::_)=_;cases hx:x ==n with
  |true=>
   have e:x=n:=eq_of_beq hx;subst e
   by_cases hc:(k ==NameKind.free && env.scope.kind == .function && env.kindOf x ==some .cell)=true
   ·rw [if_pos hc];simp only [List.lookup_cons,beq_self_eq_true,Option.map_some];rw [if_pos hc]
   ·rw [if_neg hc];simp only [List.lookup_cons,beq_self_eq_true,Option.map_some];rw [if_neg hc]
  |false=>
   by_cases hc:(k ==NameKind.free && env.scope.kind == .function && env.kindOf n ==some .cell)=true
   ·rw [if_pos hc];simp only [List.lookup_cons,hx];exact ih
   ·rw [if_neg hc];simp only [List.lookup_cons,hx];exact ih
def u_1(inner outer:List (Str×NameKind))(N N':List Str):Bool:=
 (inner.all λp=>p.2 != .cell && (p.2 != .local || inner.lookup p.1 ==some .local) && (p.2 != .free || (outer.lookup p.1 ==some .cell || outer.lookup p.1 ==some .free))) &&
 (List.range N.length).all λi=>match N'[i]? with
  |some x=>(match inner.lookup x with
   |some .free=>N[i]? ==some x && (outer.lookup x ==some .cell || outer.lookup x ==some .free)
   |some .local=>false
   |some .cell=>false
   |_=>true)
  |none=>true
theorem x_6{scope:Scope}{N':List Str}(ok:X.Ok)(hk:scope.kind=.function)(hb:u_1 scope.names X.env.scope.names X.N N'=true):CompN X scope (Bw X.env.cells scope.names []) N':=by
 unfold u_1 at hb;rw [Bool.and_eq_true] at hb;obtain⟨h1,h2⟩:=hb;have h1:=List.all_eq_true.mp h1;have h2:=List.all_eq_true.mp h2;have fr:∀p∈scope.names,p.2=.free->∃c,X.env.cells.lookup p.1=some c:=λp hp hf=>by
  have z:=h1 p hp;simp only [hf,Bool.and_eq_true,Bool.or_eq_true,bne_iff_ne,beq_iff_eq] at z;exact ok.has p.1 (by
   rcases z.2 with z|z
   ·exact absurd rfl z
   ·exact z)
 have inn:∀x k,scope.names.lookup x=some k->(x,k)∈scope.names:=λx k e=>PySem.mem_of_lookup e;have ay:∀p∈scope.names,p.2≠ .cell:=λp hp hc=>by
  have z:=h1 p hp;rw [hc] at z;simp at z
 have cy:∀x,scope.names.lookup x=some .free->∃c,(Bw X.env.cells scope.names []).lookup x=some c:=λx e=>Option.isSome_iff_exists.mp (bk_1 (inn x _ e));have dh:∀x,((relabel scope X.env).names.lookup x=some .cell\/(relabel scope X.env).names.lookup x=some .free)->scope.names.lookup x=some .free:=λx h=>by
  unfold relabel at h;rw [q_8] at h;cases e:scope.names.lookup x with
  |none=>rw [e] at h;simp at h
  |some k=>
   rw [e] at h;have nc:=ay (x,k) (inn x k e);cases k with
   |free=>rfl
   |cell=>exact absurd rfl nc
   |«local»=>simp at h
   |globalExplicit=>simp at h
   |globalImplicit=>simp at h
 refine⟨aw_8 fr,ay,hk,λy hy hl=> ?_,λx c e=> ?_,λx h=>cy x (dh x h),λi x e hi hv=> ?_⟩
 ·have z:=h1 y hy;simp only [hl,Bool.and_eq_true,Bool.or_eq_true,bne_iff_ne,beq_iff_eq] at z;rcases z.1.2 with z|z
  ·exact absurd rfl z
  ·exact z
 ·rcases bj_9 (PySem.mem_of_lookup e) with z|⟨z1,z2⟩
  ·exact absurd z (by simp)
  ·obtain⟨c',e'⟩:=fr (x,.free) z1 rfl;have z2:c=(X.env.cells.lookup x).getD 0:=z2;have e':X.env.cells.lookup x=some c':=e';rw [e'] at z2⊢;cases z2;rfl
 ·have z:=h2 i (List.mem_range.mpr hi);rw [e] at z;dsimp only at z;have look:scope.names.lookup x=some .free/\(((relabel scope X.env).names.lookup x=some .cell\/(relabel scope X.env).names.lookup x=some .free)):=by
   unfold Fu relabel at hv;unfold relabel;rw [q_8] at hv⊢;cases q:scope.names.lookup x with
   |none=>rw [q] at hv;simp at hv
   |some k=>
    rw [q] at hv z;cases k with
    |free=>
     refine⟨rfl, ?_⟩
     by_cases hc:(X.env.scope.kind == .function && X.env.kindOf x ==some .cell)=true
     ·left;simp [Bool.and_assoc,hc]
     ·right;simp [Bool.and_assoc,hc]
    |cell=>simp at z
    |«local»=>simp at z
    |globalExplicit=>simp at hv
    |globalImplicit=>simp at hv
  rw [look.1] at z;simp only [Bool.and_eq_true,Bool.or_eq_true,beq_iff_eq] at z;exact⟨z.1,z.2,cy x look.1,look.2⟩
structure TurnZ(P:Program)(w:World)(K:Frag)(tg:Expr)(J:It)(fp:List Addr)(it:Addr)(tn:Nat->Heap->Prop)(B:Cx->Prop):Prop where
 obj:∀i h,tn i h->∀b∈fp,∃o,h.get? b=some o/\∀v,o.data≠ .cell v
 keep:∀i h h',tn i h->(∀b∈fp,∀o,h.get? b=some o->h'.get? b=some o)->tn i h'
 item:∀(X:Cx),X.prog=P->X.w=w->X.K=K->∀(i:Nat) (zd:List (Addr×Obj)) (s:Shared) (σ:Sg) (H:Hp) (E:Value->Shared->Prop),B X->Inv X zd σ H s->(∀b∈fp,u_9 X zd H b)->tn i s.heap->J.go i H->
  wpAny (model P w) X.A (pyNext (.ref it)) (λr s1=>∃u,r=some u/\
   wpAny (model P w) X.A (letOwnedTupleGo tg (.ref it) u) (λ_ s2=>∃x H',Inv X zd σ H' s2/\RelV x u/\J.yld i H x H'/\tn (i + 1) s2.heap/\∀b∈fp,H' b=none) E s1) E s
 done:∀(X:Cx),X.prog=P->X.w=w->X.K=K->∀(i:Nat) (zd:List (Addr×Obj)) (s:Shared) (σ:Sg) (H:Hp) (E:Value->Shared->Prop),B X->Inv X zd σ H s->(∀b∈fp,u_9 X zd H b)->tn i s.heap->J.stop i H->
  wpAny (model P w) X.A (pyNext (.ref it)) (λr s1=>r=none/\Inv X zd σ H s1) E s
 self:∀(A:Around) (i:Nat) (s:Shared) (Q:Value->Shared->Prop) (E:Value->Shared->Prop),tn i s.heap->Q (.ref it) s->wpAny (model P w) A (pyIter (.ref it)) Q E s
def az_5:Cx->Prop:=λX=>X.calm=true
theorem Turn.z{P:Program}{w:World}{tg:Expr}{J:It}{fp:List Addr}{it:Addr}{tn:Nat->Heap->Prop}(T:Turn P w K tg J fp it tn):TurnZ P w K tg J fp it tn az_5:=
 ⟨T.obj,T.keep,λX a b c i zd s σ H E hc=>T.item X a b c hc i zd s σ H E,λX a b c i zd s σ H E hc=>T.done X a b c hc i zd s σ H E,T.self⟩
def BX:Cx->Prop:=λX=>X.A.handled=none\/∃(x:Addr) (o:Obj) (u:HO) (us:Array Value),X.A.handled=some (.ref x)/\X.H₀ x=some (.frz o u)/\o.data=.fields us/\us[2]? =some .none
theorem BX.ne{zd:List (Addr×Obj)}{s:Shared}{σ:Sg}{a:Addr}(b:BX X)(I:Inv X zd σ H s)(n:H a=none):X.A.handled≠some (.ref a):=λz=>by
 rcases b with b|⟨x,o,u,us,e,h,_⟩
 ·rw [b] at z;cases z
 ·rw [e] at z;injection z with z;injection z with z;rw [<-z,I.base.frzs x o u h] at n;cases n
def PIZ(X:Cx)(B:Cx->Prop)(tg iter:Expr)(wi:TI):Prop:=
 ∀(zd:List (Addr×Obj)) (s:Shared) (σ:Sg) (H:Hp) (R:It->Hp->Prop),Inv X zd σ H s->wi σ H R->
  wpAny (model X.prog X.w) X.A (eval iter X.env) (λv s1=>wpAny (model X.prog X.w) X.A (pyIter v) (λitv s2=>∃(it:Addr) (fp:List Addr) (tn:Nat->Heap->Prop) (J:It) (H':Hp),itv=.ref it/\Inv X zd σ H' s2/\TurnZ X.prog X.w X.K tg J fp it tn B/\tn 0 s2.heap/\(∀b∈fp,u_9 X zd H' b)/\R J H') X.xe s1) X.xe s
theorem PI.z{tg iter:Expr}{wi:TI}(h:PI X tg iter wi):PIZ X az_5 tg iter wi:=λzd s σ H R I q=>
 wpAny_mono (h zd s σ H R I q) (λv s1 h1=>wpAny_mono h1 (λitv s2 ⟨it,fp,tn,J,H',e,I2,T,r⟩=>⟨it,fp,tn,J,H',e,I2,Turn.z T,r⟩) λ_ _ z=>z) λ_ _ z=>z
theorem ai_1{elt iter tg:Expr}{ifs:List Expr}{scope:Scope}{N':List Str}{fi:FI}{fg:Eu}{p:FT}{f:FE}{m:Nat}(hx0:∀e s,¬X.xe e s){B:Cx->Prop}(hk:scope.kind=.function)(hb:u_1 scope.names X.env.scope.names X.N N'=true)
  (hm:N'.length=X.N.length + m)
  (hin:∀C s0 H0 fp pn,GC (Cj X scope (Bw X.env.cells scope.names []) N' C s0 H0 fp pn) Bq tg fg/\CTs (Cj X scope (Bw X.env.cells scope.names []) N' C s0 H0 fp pn) Bq ifs p/\ED (Cj X scope (Bw X.env.cells scope.names []) N' C s0 H0 fp pn) Bq elt f)
  {zd:List (Addr×Obj)} {s:Shared} {σ:Sg} {δ:DE} (I:Inv X zd σ H s) {Z:Hp->Hp->Prop} (hZ:∀G2 H2,Z G2 H2->Same G2 H2/\HasS X.K G2 σ δ) (hB:∀C s0 H0 fp pn,Inv X zd σ H0 s0->B (Cj X scope (Bw X.env.cells scope.names []) N' C s0 H0 fp pn))
  (hit:wpAny (model X.prog X.w) X.A (eval iter X.env) (λxv s₁=>wpAny (model X.prog X.w) X.A (pyIter xv) (λitv s₂=>∃(it:Addr) (fp:List Addr) (tn:Nat->Heap->Prop) (J:It) (H2:Hp) (ds:List D) (G2:Hp),itv=.ref it/\Inv X zd σ H2 s₂/\TurnZ X.prog X.w X.K tg J fp it tn B/\tn 0 s₂.heap/\(∀b∈fp,u_9 X zd H2 b)/\fi δ=.ok ds/\Z G2 H2/\ItD X.K G2 J ds) X.xe s₁) X.xe s)
  {RR:Value->Addr->Result->Shared->Prop}
  (o:match Cc m fi fg p f δ with| .ok _=>True| .ex x=>False| .no=>False)
  (hRR:∀(Da C:Addr) (s1:Shared) (G2 H2 G' H':Hp) (vs:List V) (rs:List D),Cc m fi fg p f δ=.ok (.ow (.lst rs))->Inv X zd σ H' s1->(∃m,s1.heap.Ns C m)->u_9 X zd H' C->Z G2 H2->Step G2 H2 G' H'->H2 Da=none->H' Da=some (.lst vs)->G' Da=none->HasL X.K G' vs rs->RR (.ref Da) C (.ok .next) s1):
  wpAny (model X.prog X.w) X.A (eval iter X.env) (λx s₁=>wpAny (model X.prog X.w) X.A (pyIter x) (λit s₂=>wpAny (model X.prog X.w) X.A (newList []) (λzp s₃=>
   wpAny (model X.prog X.w) X.A (newFunctionEnv scope X.env.globals (Bw X.env.cells scope.names []) [] X.env.qual none .none (some X.env)) (λcenv s₄=>
    codeAny (model X.prog X.w) X.A (.compStart (.ListComp elt [⟨tg,iter,ifs,0⟩] scope pos) 0 it zp {cenv with scope:=relabel scope X.env}) (RR zp cenv.locals) s₄) X.xe s₃) X.xe s₂) X.xe s₁) X.xe s:=by
 have n:=x_6 I.ok hk hb;generalize hcle:Bw X.env.cells scope.names []=cl at n hin hB⊢;have cf:∀ds,fi δ=.ok ds->ds.length<=16777216/\(match m_6 fg p f (δ ++ List.replicate m none) ds with| .ok rs=>Cc m fi fg p f δ=.ok (.ow (.lst rs))| .ex x=>False| .no=>False):=λds e=>by
  unfold Cc at o⊢;simp only [e,R.bind_ok] at o⊢
  by_cases hz:ds.length<=16777216
  ·refine⟨hz, ?_⟩;rw [if_pos hz] at o⊢;cases e2:m_6 fg p f (δ ++ List.replicate m none) ds with
   |ok rs=>rfl
   |ex x=>rw [e2] at o;exact o
   |no=>rw [e2] at o;exact o
  ·rw [if_neg hz] at o;exact o.elim
 
 refine wpAny_mono hit (λxv s₁ h₁=>wpAny_mono h₁ (λitv s₂ h₂=> ?_) λ_ _ e=>(hx0 _ _ e).elim) λ_ _ e=>(hx0 _ _ e).elim;obtain⟨it,fp,tn,J,H2,ds,G2,rfl,I2,T,st2,f2,e2,hz2,itd⟩:=h₂;obtain⟨sg2,h0⟩:=hZ G2 H2 hz2;obtain⟨hz,o⟩:=cf ds e2
 
 have hfD:H2 s₂.heap.objs.size=none:=I2.hok.fresh (Nat.le_refl _);refine wpAny_newObj_type (wpAny_newFunctionEnv n.cell (by intro y hy;simp at hy) (λh₁ hns₁ hsb₁=> ?_) n.kind);dsimp only at hns₁ hsb₁⊢;generalize hDa:s₂.heap.objs.size=Da at hfD;have hDn: @Eq Nat s₂.heap.objs.size Da:=hDa;have I3:Inv X zd σ (upd H2 Da (.lst [])) {s₂ with heap:=s₂.heap.push {cls:=.type "list",dict:=none,data:=.seq ([]:List Value).toArray}}:=by
  rw [<-hDa];exact I2.lnew (t':=s₂.toks) .nil (Nat.zero_le _)
 generalize hH3:s₂.heap.push {cls:=.type "list",dict:=none,data:=.seq ([]:List Value).toArray}=hp3 at hns₁ hsb₁ I3⊢;have hC:hp3.objs.size=Da + 1:=by rw [<-hH3,Heap.size_push,hDa]
 generalize hCe:hp3.objs.size=C at hns₁ hsb₁ hC;have hCn: @Eq Nat hp3.objs.size C:=hCe;have hC2: @Eq Nat C (Da + 1):=hC;have eh:∀b o,s₂.heap.get? b=some o->hp3.get? b=some o:=λb o e=>by rw [<-hH3];exact Heap.get?_push_of_some _ e
 have up:∀b o,hp3.get? b=some o->h₁.get? b=some o:=λb o e=>hsb₁.extBut b o (Nat.ne_of_lt (show @LT.lt Nat _ b C by rw [<-hCn];exact Heap.lt_size e)) (Heap.get?_push_of_some _ e)
 
 have fpC:∀b∈fp,b < s₂.heap.objs.size:=λb hb=>by
  obtain⟨o,e,_⟩:=T.obj _ _ st2 b hb;exact Heap.lt_size e
 have hcl:∀x c,cl.lookup x=some c->c < hp3.objs.size/\c∉fp/\(upd H2 Da (.lst [])) c=none:=λx c e=>by
  have e':=n.sub x c e;obtain⟨v,hv⟩:=I3.cell x c e';exact⟨hv.lt,λz=>(f2 c z).2.2.2.2.1 x c e' rfl,I3.freeC x c e'⟩
 let X':=Cj X scope cl N' C {s₂ with heap:=hp3} (upd H2 Da (.lst [])) fp (X.pn ++ zd)
 have ok':X'.Ok:=by
  refine⟨I.ok.mod,n.kind,I.ok.glob,I.ok.blt,Nat.le_of_eq hCe,λx y c h1 h2=>I.ok.inj x y c (n.sub x c h1) (n.sub y c h2),λx hx=>n.has x hx,λx c z=> ?_,I.ok.hd,I.ok.frames,.inl rfl,λb hb=>⟨?_,λx c e z=> ?_⟩,λb o e=> ?_, ?_,λb o e hb=> ?_,λb hb z=> ?_,I3.stack,I3.stkFree⟩
  ·exact absurd z Bool.false_ne_true
  ·exact Nat.ne_of_lt (Nat.lt_of_lt_of_le (fpC b hb) (show @LE.le Nat _ s₂.heap.objs.size C by omega))
  ·subst z;exact(hcl x c e).2.1 hb
  ·exact I3.bs b o e
  ·exact Nat.le_trans I.ok.bsz I3.sz
  ·rcases(f2 b hb).2.2.2.1 with z|z
   ·exact I.ok.noex b o e z
   ·exact absurd (Heap.lt_size (I.ok.bs b o e).1) (Nat.not_lt_of_le z)
  ·rcases List.mem_cons.mp (I3.stkSub b z) with z|z
   ·exact(f2 b hb).2.1 z
   ·exact(f2 b hb).2.2.1 z
 have lenσ:σ.length=X.N.length:=I.len;have I4:Inv X' [] (σ ++ List.replicate m none) (upd H2 Da (.lst [])) {s₂ with heap:=h₁,toks:=s₂.toks + ([]:List (Str×Value)).length}:=by
  refine⟨ok',rfl,I2.bare,Un.kept up,⟨_,hns₁,λi x v e1 e2 e3=> ?_⟩,λx c e=> ?_, ?_,λx c e=>(hcl x c e).2.2,λp hp=> ?_,I3.hok.kept up, ?_⟩
  ·have hi:i < σ.length:=by
    by_cases hh:i < σ.length
    ·exact hh
    ·rw [List.getElem?_append_right (by omega),List.getElem?_replicate] at e2
     split at e2 <;> cases e2
   rw [List.getElem?_append_left hi] at e2;obtain⟨n1,n2,⟨c,n3⟩,n4⟩:=n.old i x e1 (by omega) e3;obtain⟨mm,hnm,hl⟩:=I3.loc;obtain⟨u,r,l⟩:=hl i x v n1 e2 (.inr n2);refine⟨u,r,.inr ⟨n4,c,n3, ?_⟩⟩;have n3':=n.sub x c n3;rcases l with⟨k1,k2⟩|⟨k1,c',k2,k3⟩
   ·exfalso;have k1':X.env.scope.names.lookup x=some .local:=k1;rcases n2 with n2|n2
    ·rw [n2] at k1';cases k1'
    ·rw [n2] at k1';cases k1'
   ·rw [n3'] at k2;cases k2;exact k3.keeps up
  ·obtain⟨v,hv⟩:=I3.cell x c (n.sub x c e);exact⟨v,hv.keeps up⟩
  ·show upd H2 Da (.lst []) C=none;exact I3.hok.fresh (by show hp3.objs.size<=C;omega)
  ·have hp':p∈X.pn ++ zd:=by
    have hp2:p∈(X.pn ++ zd) ++ []:=hp
    rwa [List.append_nil] at hp2
   obtain⟨z1,z2,z3,z4,z5⟩:=I3.pin p hp';refine⟨up _ _ z1,z2, ?_,λz=> ?_,z5⟩
   ·exact Nat.ne_of_lt (show @LT.lt Nat _ p.1 C by rw [<-hCn];exact Heap.lt_size z1)
   ·rcases List.mem_cons.mp (I3.stkSub p.1 z) with z|z
    ·exact z3 z
    ·exact z4 z
  ·rw [List.length_append,List.length_replicate,lenσ];exact hm.symm
 obtain⟨hgc,hct,hel⟩:=hin C {s₂ with heap:=hp3} (upd H2 Da (.lst [])) fp (X.pn ++ zd);have hS4:HasS X.K G2 (σ ++ List.replicate m none) (δ ++ List.replicate m none):=by
  refine⟨by rw [List.length_append,List.length_append,List.length_replicate,List.length_replicate,h0.len],λi d e=> ?_⟩
  by_cases hh:i < δ.length
  ·rw [List.getElem?_append_left hh] at e;obtain⟨v,e1,r⟩:=h0.get i d e;exact⟨v,by rw [List.getElem?_append_left (by rw [h0.len];exact hh)];exact e1,r⟩
  ·rw [List.getElem?_append_right (by omega),List.getElem?_replicate] at e
   split at e <;> cases e
 generalize hδ:δ ++ List.replicate m none=δ' at hS4 o;have stn:tn 0 h₁:=T.keep 0 _ _ st2 λb hb o e=>up b o (eh b o e);have fpn:∀b∈fp,(upd H2 Da (.lst [])) b=none:=λb hb=>by
  rw [An (Nat.ne_of_lt (show @LT.lt Nat _ b Da by rw [<-hDn];exact fpC b hb))];exact(f2 b hb).1
 have bx:∀{pl:List (Addr×Obj)} {H':Hp},pl= []->(∀b∈fp,H' b=none)->∀b∈fp,u_9 X' pl H' b:=λ{pl H'} hpl hn b hb=>by
  subst hpl;refine⟨hn b hb, ?_,λz=> ?_,.inl hb,λx c e z=> ?_,λp hp z=> ?_⟩
  ·exact Nat.ne_of_lt (Nat.lt_of_lt_of_le (fpC b hb) (show @LE.le Nat _ s₂.heap.objs.size C by omega))
  ·rcases List.mem_cons.mp (I3.stkSub b z) with z|z
   ·exact(f2 b hb).2.1 z
   ·exact(f2 b hb).2.2.1 z
  ·subst z;exact(hcl x c e).2.1 hb
  ·have hp':p∈X.pn ++ zd:=by
    have hp2:p∈(X.pn ++ zd) ++ []:=hp
    rwa [List.append_nil] at hp2
   exact(f2 b hb).2.2.2.2.2 p hp' z
 have loop:∀s4:Shared,Inv X' [] (σ ++ List.replicate m none) (upd H2 Da (.lst [])) s4->tn 0 s4.heap->codeAny (model X.prog X.w) X.A (.compLoop (.ListComp elt [⟨tg,iter,ifs,0⟩] scope pos) 0 (.ref it) (.ref Da) (compEnvC scope cl C X.env)) (RR (.ref Da) C) s4:=by
  intro s4 I4 tn4;refine bt_2 (λk s'=>∃i σ' H' G' vs rs,k=ds.length - i/\i<=ds.length/\Inv X' [] σ' H' s'/\tn i s'.heap/\(∀b∈fp,H' b=none)/\HasS X.K G' σ' δ'/\Step G2 H2 G' H'/\Same G2 G'/\H' Da=some (.lst vs)/\G' Da=none/\
   HasL X.K G' vs rs/\rs.length<=i/\(match m_6 fg p f δ' (ds.drop i) with| .ok rs2=>Cc m fi fg p f δ=.ok (.ow (.lst (rs ++ rs2)))| .ex x=>False| .no=>False)) ?_ ds.length
   ⟨0,_,_,G2,[],[],by simp,Nat.zero_le _,I4,tn4,fpn,hS4,Step.own sg2 hfD _,Same.refl _,Ba,sg2.free hfD,.nil,Nat.zero_le _,by simpa using o⟩
  rintro k s' ⟨i,σ',H',G',vs,rs,rfl,hi,I',tni,fn',hS,st,sg,hD,gD,rl,hl,o'⟩
  obtain⟨i1,i2⟩:=itd G' H' sg st.gh i
  by_cases hlt:i < ds.length
  ·obtain⟨d,e1,e2⟩:=x_5 hlt;obtain⟨go,yl⟩:=i1 d e1;refine Aw (T.item X' rfl rfl rfl i [] s' σ' H' _ (hB _ _ _ _ _ I3) I' (bx rfl fn') tni go) λr s1 ⟨u,hr,h1⟩=> ?_;subst hr;refine Aw h1 λ_ s5 ⟨x,H5,I5,r5,y5,st5,fr5⟩=> ?_;obtain⟨G5,au,hx5⟩:=yl x H5 y5;have I5':=I5.pinned (bx rfl fr5) (T.obj _ _ st5);rw [e2] at o';have o1:match((fg d δ').bind λ δ1=>(p δ1).bind λb=>if b=true then(f δ1).bind λw=>(m_6 fg p f δ' (ds.drop (i + 1))).bind λrs=> .ok (w.d::rs) else m_6 fg p f δ' (ds.drop (i + 1))) with| .ok rs2=>Cc m fi fg p f δ=.ok (.ow (.lst (rs ++ rs2)))| .ex x=>False| .no=>False:=o'
   have hS5:HasS X.K G5 σ' δ':=hS.mono au.gg;refine wpAny_mono (hgc _ s5 σ' H5 x u (λ σ6 H6=>∃δ1,fg d δ'=.ok δ1/\H6=H5/\HasS X.K G5 σ6 δ1/\HasS X.K G5 σ6 δ') I5' r5 ⟨G5,δ',d,au.gh,hS5,hx5, ?_⟩) (λ_ s6 ⟨σ6,H6,I6,δ1,e6,eH,hS6,hS6'⟩=> ?_) λ_ _ z=>False.elim z
   ·cases e6:fg d δ' with
    |ok δ1=>exact λ σ6 h6 h6'=>⟨δ1,rfl,rfl,h6,h6'⟩
    |ex x=>rw [e6] at o1;exact o1
    |no=>rw [e6] at o1;exact o1
   subst eH;rw [e6] at o1;simp only [R.bind_ok] at o1;refine wpAny_mono (hct _ s6 σ6 H6 (λb H7=>∃G7,p δ1=.ok b/\Step G5 H6 G7 H7) I6 ⟨G5,δ1,au.gh,hS6, ?_⟩) (λb s7 ⟨H7,I7,G7,e7,stp7⟩=> ?_) λ_ _ z=>False.elim z
   ·cases e7:p δ1 with
    |ok b=>exact λG7 H7 st7=>⟨G7,rfl,st7⟩
    |ex x=>rw [e7] at o1;exact o1
    |no=>rw [e7] at o1;exact o1
   rw [e7] at o1;simp only [R.bind_ok] at o1
   
   have gD7:G7 Da=none:=(au.trans stp7).nw Da gD (by rw [hD];simp);have hD7:H7 Da=some (.lst vs):=(au.trans stp7).hh _ _ hD;have bp:∀{σ9:Sg} {H9:Hp} {s9:Shared},Inv X' ([] ++ ap_9 fp s5.heap) σ9 H9 s9->tn (i + 1) s9.heap/\∀b∈fp,H9 b=none:=λ{σ9 H9 s9} I9=>
    ⟨T.keep _ _ _ st5 λb hb o e=>(I9.pin (b,o) (List.mem_append_right _ (List.mem_append_right _ (v_0 hb e)))).1,λb hb=>by
     obtain⟨o,e,d⟩:=T.obj _ _ st5 b hb;exact(I9.pin (b,o) (List.mem_append_right _ (List.mem_append_right _ (v_0 hb e)))).2.1⟩
   have hSk:∀{G9:Hp},Same G7 G9->HasS X.K G9 σ6 δ':=λ{G9} sm=>hS6'.mono (stp7.gg.trans sm);cases b with
   |false=>
    rw [if_neg Bool.false_ne_true] at o1⊢;exact⟨ds.length - (i + 1),by omega,i + 1,σ6,H7,G7,vs,rs,rfl,hlt,I7.unpinned,(bp I7).1,(bp I7).2,hSk (Same.refl _),st.trans (au.trans stp7),sg.trans (au.gg.trans stp7.gg),hD7,gD7,rl.mono (au.gg.trans stp7.gg),by omega,o1⟩
   |true=>
    rw [if_pos rfl] at o1⊢;refine wpAny_mono (hel _ s7 σ6 H7 (λv H8=>∃w G8,f δ1=.ok w/\Step G7 H7 G8 H8/\Has X.K G8 v w.d) I7 ⟨G7,δ1,stp7.gh,hS6.mono stp7.gg, ?_⟩) (λu8 s8 ⟨v8,H8,I8,r8,w8,G8,e8,stp8,hv8⟩=> ?_) λ_ _ z=>False.elim z
    ·cases e8:f δ1 with
     |ok w=>exact WP.intro λv G8 H8 st8 r8=>⟨w,G8,rfl,st8,r8⟩
     |ex x=>rw [e8] at o1;exact o1
     |no=>rw [e8] at o1;exact o1
    rw [e8] at o1;simp only [R.bind_ok] at o1;have gD8:G8 Da=none:=stp8.nw Da gD7 (by rw [hD7];simp);have hD8:H8 Da=some (.lst vs):=stp8.hh _ _ hD7;have rl8:HasL X.K G8 vs rs:=rl.mono (au.gg.trans (stp7.gg.trans stp8.gg));refine wpAny_mono (ag_9 (X:=X') _ s8 σ6 H8 (.ref Da) [v8] (.ref Da) [u8] (λ_ H9=>H9=upd H8 Da (.lst (vs ++ [v8]))) I8 rfl (.cons r8 .nil) ⟨Da,vs,v8,rfl,rfl,hD8,by rw [rl.length,sizeLine_eq];omega,rfl⟩) (λ_ s9 ⟨_,H9,I9,_,e9⟩=> ?_) λ_ _ z=>False.elim z;subst e9;have stA:=st.trans (au.trans (stp7.trans stp8));refine⟨ds.length - (i + 1),by omega,i + 1,σ6,_,G8,vs ++ [v8],rs ++ [w8.d],rfl,hlt,I9.unpinned,(bp I9).1,(bp I9).2,hSk stp8.gg,⟨λb o z=> ?_,λb o z=> ?_,stA.gg,stA.nw⟩,sg.trans (au.gg.trans (stp7.gg.trans stp8.gg)),Ba,gD8,rl8.append (.cons hv8 .nil),by rw [List.length_append,List.length_singleton];omega, ?_⟩
    ·rw [An (Ef z hfD)];exact stA.hh b o z
    ·rw [An (Ef z gD8)];exact stp8.gh b o z
    ·cases e10:m_6 fg p f δ' (ds.drop (i + 1)) with
     |ok rs2=>
      rw [e10] at o1;simp only [R.bind_ok] at o1⊢;rw [List.append_assoc];exact o1
     |ex x=>rw [e10] at o1;exact o1
     |no=>rw [e10] at o1;exact o1
  ·have e:ds.length=i:=by omega
   refine Aw (T.done X' rfl rfl rfl i [] s' σ' H' _ (hB _ _ _ _ _ I3) I' (bx rfl fn') tni (i2 e)) λr s1 ⟨hr,I1⟩=> ?_;subst hr;rw [List.drop_eq_nil_of_le (by omega)] at o';have o1:Cc m fi fg p f δ=.ok (.ow (.lst (rs ++ []))):=o';rw [List.append_nil] at o1;obtain⟨mm,hnm,_⟩:=I1.loc;have dq:Inv X zd σ H' s1:=I3.call' (s':=s1) (ch:=fp) I1.os I1.base I1.hok I1.bare λb hb=>by
    obtain⟨f0,f1',f2',f3,f4,f5⟩:=f2 b hb;exact⟨f3,f1',f4,f5⟩
   exact hRR Da C s1 G2 H2 G' H' vs rs o1 dq ⟨mm,hnm⟩ (I3.fpOk (by show hp3.objs.size<=C;omega) I1.free) hz2 st hfD hD gD rl
 exact codeAny_compStart_list (loop _ I4 stn) (T.self X.A 0 _ _ _ stn (loop _ I4 stn))
theorem ar_2{elt iter tg:Expr}{ifs:List Expr}{scope:Scope}{N':List Str}{fi:FI}{fg:Eu}{p:FT}{f:FE}{m:Nat}(hx0:∀e s,¬X.xe e s){B:Cx->Prop}(hi:PIZ X B tg iter (tI X.K Bq fi))(hk:scope.kind=.function)(hb:u_1 scope.names X.env.scope.names X.N N'=true)
  (hm:N'.length=X.N.length + m)
  (hin:∀C s0 H0 fp pn,GC (Cj X scope (Bw X.env.cells scope.names []) N' C s0 H0 fp pn) Bq tg fg/\CTs (Cj X scope (Bw X.env.cells scope.names []) N' C s0 H0 fp pn) Bq ifs p/\ED (Cj X scope (Bw X.env.cells scope.names []) N' C s0 H0 fp pn) Bq elt f)
  {zd:List (Addr×Obj)} {s:Shared} {σ:Sg} {G H:Hp} {δ:DE} (I:Inv X zd σ H s) (g0:Same G H) (h0:HasS X.K G σ δ) (hB:∀C s0 H0 fp pn,Inv X zd σ H0 s0->B (Cj X scope (Bw X.env.cells scope.names []) N' C s0 H0 fp pn)) {RR:Value->Addr->Result->Shared->Prop}
  (o:match Cc m fi fg p f δ with| .ok _=>True| .ex x=>False| .no=>False)
  (hRR:∀(Da C:Addr) (s1:Shared) (G' H':Hp) (vs:List V) (rs:List D),Cc m fi fg p f δ=.ok (.ow (.lst rs))->Inv X zd σ H' s1->(∃m,s1.heap.Ns C m)->u_9 X zd H' C->Step G H G' H'->H Da=none->H' Da=some (.lst vs)->G' Da=none->HasL X.K G' vs rs->RR (.ref Da) C (.ok .next) s1):
  wpAny (model X.prog X.w) X.A (eval iter X.env) (λx s₁=>wpAny (model X.prog X.w) X.A (pyIter x) (λit s₂=>wpAny (model X.prog X.w) X.A (newList []) (λzp s₃=>
   wpAny (model X.prog X.w) X.A (newFunctionEnv scope X.env.globals (Bw X.env.cells scope.names []) [] X.env.qual none .none (some X.env)) (λcenv s₄=>
    codeAny (model X.prog X.w) X.A (.compStart (.ListComp elt [⟨tg,iter,ifs,0⟩] scope pos) 0 it zp {cenv with scope:=relabel scope X.env}) (RR zp cenv.locals) s₄) X.xe s₃) X.xe s₂) X.xe s₁) X.xe s:=by
 refine ai_1 hx0 (B:=B) hk hb hm hin I (Z:=λG2 H2=>Step G H G2 H2) (λG2 H2 z=>⟨z.gh,h0.mono z.gg⟩) hB ?_ o λDa C s1 G2 H2 G' H' vs rs e Io hm' fc z st h1 h2 h3 rl=>hRR Da C s1 G' H' vs rs e Io hm' fc (z.trans st) (z.hh.free h1) h2 h3 rl;refine wpAny_mono (hi zd s σ H (λJ H2=>∃ds G2,fi δ=.ok ds/\Step G H G2 H2/\ItD X.K G2 J ds) I ⟨G,δ,g0,h0, ?_⟩) (λxv s₁ h₁=>wpAny_mono h₁ (λitv s₂ h₂=> ?_) λ_ _ e=>(hx0 _ _ e).elim) λ_ _ e=>(hx0 _ _ e).elim
 ·unfold Cc at o;cases e:fi δ with
  |ok ds=>exact λJ G2 H2 st it=>⟨ds,G2,rfl,st,it⟩
  |ex x=>rw [e] at o;exact o
  |no=>rw [e] at o;exact o
 ·obtain⟨it,fp,tn,J,H2,rfl,I2,T,st2,f2,ds,G2,e2,stp,itd⟩:=h₂;exact⟨it,fp,tn,J,H2,ds,G2,rfl,I2,T,st2,f2,e2,stp,itd⟩
theorem cf_6{elt iter tg:Expr}{ifs:List Expr}{scope:Scope}{N':List Str}{fi:FI}{fg:Eu}{p:FT}{f:FE}{m:Nat}(hx0:∀e s,¬X.xe e s){B:Cx->Prop}(hB:∀zd σ C s0 H0 fp pn,Inv X zd σ H0 s0->B (Cj X scope (Bw X.env.cells scope.names []) N' C s0 H0 fp pn))(hi:PIZ X B tg iter (tI X.K Bq fi))(hk:scope.kind=.function)(hb:u_1 scope.names X.env.scope.names X.N N'=true)
  (hm:N'.length=X.N.length + m)
  (hin:∀C s0 H0 fp pn,GC (Cj X scope (Bw X.env.cells scope.names []) N' C s0 H0 fp pn) Bq tg fg/\CTs (Cj X scope (Bw X.env.cells scope.names []) N' C s0 H0 fp pn) Bq ifs p/\ED (Cj X scope (Bw X.env.cells scope.names []) N' C s0 H0 fp pn) Bq elt f)
  (hs:∀x,foldedSetIterable iter X.env x=pure x:=by intro _;rfl):ED X Bq (.ListComp elt [⟨tg,iter,ifs,0⟩] scope pos) (Cc m fi fg p f):=by
 intro zd s σ H Q I q;obtain⟨G,δ,g0,h0,o⟩:=q;rw [eval_ListComp];have n:=x_6 I.ok hk hb;refine wpAny_comprehension_free (use:=none) rfl hs n.clos n.kind n.names (ar_2 (RR:=λzp C=>compPost (model X.prog X.w) X.A X.xe none (EP X zd σ Q) zp C) hx0 hi hk hb hm hin I g0 h0 (hB _ _) ?_ λDa C s1 G' H' vs rs e Io hm' fc st h1 h2 h3 rl=> ?_)
 ·cases e:Cc m fi fg p f δ with
  |ok w=>trivial
  |ex x=>rw [e] at o;exact o
  |no=>rw [e] at o;exact o
 ·rw [e] at o;obtain⟨mm,hnm⟩:=hm';obtain⟨c0,c1,c2,c3,c4,c5⟩:=fc;exact⟨mm,hnm,λh' sb=>⟨.ref Da,H',Io.turned (t':=s1.toks) (λb ob hb e=>(sb.2 b hb).trans e) c0 c1 c3 c4 c5,rfl,o (.ref Da) (λb=>b=Da) G' H' st (λa e=>by subst e;exact⟨h1,h3,by rw [h2];simp⟩) (.list h2 rfl rl)⟩⟩
theorem cm_8{elt iter tg:Expr}{ifs:List Expr}{scope:Scope}{N':List Str}{fi:FI}{fg:Eu}{p:FT}{f:FE}{m:Nat}(hx0:∀e s,¬X.xe e s)(hc:X.calm=true)(hi:ID X Bq tg iter fi)(hk:scope.kind=.function)(hb:u_1 scope.names X.env.scope.names X.N N'=true)
  (hm:N'.length=X.N.length + m)
  (hin:∀C s0 H0 fp pn,GC (Cj X scope (Bw X.env.cells scope.names []) N' C s0 H0 fp pn) Bq tg fg/\CTs (Cj X scope (Bw X.env.cells scope.names []) N' C s0 H0 fp pn) Bq ifs p/\ED (Cj X scope (Bw X.env.cells scope.names []) N' C s0 H0 fp pn) Bq elt f)
  (hs:∀x,foldedSetIterable iter X.env x=pure x:=by intro _;rfl):ED X Bq (.ListComp elt [⟨tg,iter,ifs,0⟩] scope pos) (Cc m fi fg p f):=
 cf_6 (B:=az_5) hx0 (λ_ _ _ _ _ _ _ _=>hc) (PI.z hi) hk hb hm hin hs
theorem ae_6{elt iter tg:Expr}{ifs:List Expr}{scope:Scope}{N':List Str}{fi:FI}{fg:Eu}{p:FT}{f:FE}{m:Nat}(hc:X.calm=true)(hi:ID X.nox Bq tg iter fi)(hk:scope.kind=.function)(hb:u_1 scope.names X.env.scope.names X.N N'=true)
  (hm:N'.length=X.N.length + m)
  (hin:∀C s0 H0 fp pn,GC (Cj X scope (Bw X.env.cells scope.names []) N' C s0 H0 fp pn) Bq tg fg/\CTs (Cj X scope (Bw X.env.cells scope.names []) N' C s0 H0 fp pn) Bq ifs p/\ED (Cj X scope (Bw X.env.cells scope.names []) N' C s0 H0 fp pn) Bq elt f)
  (hs:∀x,foldedSetIterable iter X.env x=pure x:=by intro _;rfl):ED X EX (.ListComp elt [⟨tg,iter,ifs,0⟩] scope pos) (Cc m fi fg p f):=
 PE.imp (PE.nox (cm_8 (X:=X.nox) (λ_ _ z=>z) hc hi hk hb hm hin hs)) λ σ H Q ⟨G,δ,g0,h0,o⟩=>by
  refine⟨G,δ,g0,h0, ?_⟩;cases e:Cc m fi fg p f δ with
  |ok w=>rw [e] at o;exact o
  |ex x=>exact(ae_5 e).elim
  |no=>rw [e] at o;exact o
theorem PS.nox{st:Stmt}{t:TS}(h:PS X.nox st t):PS X st t:=λzd s σ H D I hw=>
 wpAny_mono (h zd s σ H D (I.wish _) hw) (λ_ _ q=>q.unwish) λ_ _ z=>False.elim z
theorem cy_2{i:Nat}{js:List Nat}{f:FE}(h:∀δ x,f δ≠ .ex x){Δ Δ':SE}{x:Xn}(e:Al i js f Δ=.ex x Δ'):False:=by
 unfold Al at e;have hp:∀Δ2,Dy i Δ2 (f (As Δ2))=.ex x Δ'->False:=λ Δ2 e2=>by
  unfold Dy at e2;cases q:f (As Δ2) with
  |ok w=>rw [q] at e2;cases w <;> cases e2
  |ex y=>exact h _ _ q
  |no=>rw [q] at e2;cases e2
 cases q:f (As Δ) with
 |ok w=>rw [q] at e;cases w <;> cases e
 |ex y=>exact h _ _ q
 |no=>
  rw [q] at e;cases q2:f (Bb Δ) with
  |ok w=>
   simp only [q2] at e
   split at e
   ·cases e
   ·exact hp _ e
  |ex y=>exact h _ _ q2
  |no=>simp only [q2] at e;cases e
theorem cm_9(js:List Nat){elt iter tg:Expr}{ifs:List Expr}{scope:Scope}{N':List Str}{fi:FI}{fg:Eu}{p:FT}{f:FE}{m i:Nat}{y:Str}{py bg:Pos}(hx0:∀e s,¬X.xe e s)(hc:X.calm=true)(hi:ID X Bq tg iter fi)(hk:scope.kind=.function)(hb:u_1 scope.names X.env.scope.names X.N N'=true)
  (hm:N'.length=X.N.length + m)
  (hin:∀C s0 H0 fp pn,GC (Cj X scope (Bw X.env.cells scope.names []) N' C s0 H0 fp pn) Bq tg fg/\CTs (Cj X scope (Bw X.env.cells scope.names []) N' C s0 H0 fp pn) Bq ifs p/\ED (Cj X scope (Bw X.env.cells scope.names []) N' C s0 H0 fp pn) Bq elt f)
  (hN:X.N.Nodup) (hy:X.N[i]? =some y:=by rfl) (hx:Fb X.env.scope y:=by first|exact Or.inl rfl|exact Or.inr rfl) (hf:X.fn y=true\/X.env.scope.names.lookup y=some .local:=by first|exact .inl rfl|exact .inr rfl|assumption)
  (hsw:swapsWith (.ListComp elt [⟨tg,iter,ifs,0⟩] scope pos) (some (.Name y py)) bg.line X.env=pure true:=by rfl)
  (hs:∀x,foldedSetIterable iter X.env x=pure x:=by intro _;rfl):SD X Bq (.Assign [.Name y py] (.ListComp elt [⟨tg,iter,ifs,0⟩] scope pos) bg) (Al i js (Cc m fi fg p f)):=by
 intro zd s σ H D I q;have q2:=bj_8 q;obtain⟨G,δ,g0,h0,o⟩:=q2;have n:=x_6 I.ok hk hb;rw [exec_Assign_Name_used _ _ _ _ hsw];refine wpAny_bind (wpAny_standAt (wpAny_bind ?_));show wpAny _ X.A (do let _<-comprehension (.ListComp elt [⟨tg,iter,ifs,0⟩] scope pos) scope X.env _ (newList []) false (eval iter X.env) (some (assign (.Name y py) X.env))) _ _ s;refine wpAny_bind (wpAny_mono (wpAny_comprehension_free (use:=some (assign (.Name y py) X.env)) (Q:=λ_ s'=>SP X zd D .next s') rfl hs n.clos n.kind n.names
  (ar_2 (RR:=λzp C=>compPost (model X.prog X.w) X.A X.xe (some (assign (.Name y py) X.env)) (λ_ s'=>SP X zd D .next s') zp C) hx0 (B:=az_5) (PI.z hi) hk hb hm hin I g0 h0 (λ_ _ _ _ _ _=>hc) ?_ λDa C s1 G' H' vs rs e Io hm' fc st h1 h2 h3 rl=> ?_)) (λ_ s' hq=>wpAny_pure (wpAny_pure hq)) λ_ _ e=>e)
 ·cases e:Cc m fi fg p f δ with
  |ok w=>trivial
  |ex x=>rw [e] at o;exact o
  |no=>rw [e] at o;exact o
 ·rw [e] at o;obtain⟨mm,hnm⟩:=hm';obtain⟨c0,c1,c2,c3,c4,c5⟩:=fc;show wpAny _ X.A (assign (.Name y py) X.env (.ref Da)) _ _ _;refine wpAny_assign_Name (ay_1 Io hN hy hx (v:=.ref Da) rfl (λs2 I2 ⟨a,sb,ha⟩=> ?_) hf);have hCa:C≠a:=by
   rcases ha with rfl|ha
   ·exact c1
   ·exact λz=>c4 y a ha z.symm
  refine⟨mm,hnm.sameBut sb hCa,λh' sb'=>⟨_,H',I2.turned (t':=s2.toks) (λb ob hb e=>(sb'.2 b hb).trans e) c0 c1 c3 c4 c5, ?_⟩⟩;exact o (.ref Da) (λb=>b=Da) G' H' st (λa e=>by subst e;exact⟨h1,h3,by rw [h2];simp⟩) (.list h2 rfl rl)
theorem cy_3(js:List Nat){elt iter tg:Expr}{ifs:List Expr}{scope:Scope}{N':List Str}{fi:FI}{fg:Eu}{p:FT}{f:FE}{m i:Nat}{y:Str}{py bg:Pos}(hc:X.calm=true)(hi:ID X.nox Bq tg iter fi)(hk:scope.kind=.function)(hb:u_1 scope.names X.env.scope.names X.N N'=true)
  (hm:N'.length=X.N.length + m)
  (hin:∀C s0 H0 fp pn,GC (Cj X scope (Bw X.env.cells scope.names []) N' C s0 H0 fp pn) Bq tg fg/\CTs (Cj X scope (Bw X.env.cells scope.names []) N' C s0 H0 fp pn) Bq ifs p/\ED (Cj X scope (Bw X.env.cells scope.names []) N' C s0 H0 fp pn) Bq elt f)
  (hN:X.N.Nodup) (hy:X.N[i]? =some y:=by rfl) (hx:Fb X.env.scope y:=by first|exact Or.inl rfl|exact Or.inr rfl) (hf:X.fn y=true\/X.env.scope.names.lookup y=some .local:=by first|exact .inl rfl|exact .inr rfl|assumption)
  (hsw:swapsWith (.ListComp elt [⟨tg,iter,ifs,0⟩] scope pos) (some (.Name y py)) bg.line X.env=pure true:=by rfl)
  (hs:∀x,foldedSetIterable iter X.env x=pure x:=by intro _;rfl):SD X EX (.Assign [.Name y py] (.ListComp elt [⟨tg,iter,ifs,0⟩] scope pos) bg) (Al i js (Cc m fi fg p f)):=
 PS.imp (PS.nox (cm_9 (X:=X.nox) js (λ_ _ z=>z) hc hi hk hb hm hin hN hy hx hf hsw hs)) λD σ H ⟨H0,G0,G,Δ,O,E,q⟩=>by
  refine⟨H0,G0,G,Δ,O,E, ?_⟩;cases e:Al i js (Cc m fi fg p f) Δ with
  |ex x Δ'=>exact(cy_2 (λ_ _ z=>ae_5 z) e).elim
  |_=>rw [e] at q;exact q
end
theorem z_9:bootBuiltins "bool" =some (.type "bool"):=by decide +kernel
theorem u_2{k:Nat}{scope:Scope}{cl:List (Str×Addr)}{N':List Str}{C:Addr}{s0:Shared}{H0:Hp}{fp:List Addr}{pn:List (Addr×Obj)}{c:Bool}(h:RoomC c k (Cx.A X)):RoomC c k (Cx.A (Cj X scope cl N' C s0 H0 fp pn)):=h
theorem az_6{scope:Scope}{cl:List (Str×Addr)}{N':List Str}{C:Addr}{s0:Shared}{H0:Hp}{fp:List Addr}{pn:List (Addr×Obj)}(h:Cx.calm X=true):Cx.calm (Cj X scope cl N' C s0 H0 fp pn)=true:=h
section
variable{X:Cx}{EX:Ay}{a b e:Expr}{es:List Expr}{f g:FE}{fa:FA}{pos p2:Pos}
abbrev FO:=DE->R (Option Int)
def oNone:FO:=λ_=> .ok none
def intPart:D->R (Option Int)
 | .int i=> .ok (some i)
 |_=> .no
def oSome(f:FE):FO:=λ δ=>(f δ).bind λw=>intPart w.d
def cutL{α:Type}(xs:List α)(lo hi:Option Int):List α:=(xs.drop (HT.sIx xs.length 0 lo)).take (HT.sIx xs.length xs.length hi - HT.sIx xs.length 0 lo)
def dk_8:D->Option Int->Option Int->R W
 | .lst ds,lo,hi=> .ok (.ow (.lst (cutL ds lo hi)))
 | .str x,lo,hi=>if x.length<=16777216 then .ok (.sh (.str (Txt.slice x lo hi))) else .no
 |_,_,_=> .no
def eSlice(f:FE)(lo hi:FO):FE:=λ δ=>(f δ).bind λw=>(lo δ).bind λl=>(hi δ).bind λu=>dk_8 w.d l u
def tyD(T:String):D->Bool
 | .str _=>T == "str"
 | .int _=>T == "int"
 | .lst _=>T == "list"
 |_=>false
theorem dr_3{G H:Hp}{T:String}{d:D}(g:Same G H)(r:Has K G v d)(h:tyD T d=true):tyV K T v H:=by
 cases r with
 |str x=>exact eq_of_beq h
 |int i=>exact eq_of_beq h
 |lst hq r=>exact .inl ⟨eq_of_beq h,_,g.seq hq⟩
 |_=>cases h
def rDm(K:Frag)(fn:D->List D->R W):V->List V->Hp->VK->Prop:=λx vs H Q=>∃(EX:EXT) (G:Hp) (d:D) (ds:List D),Same G H/\Has K G x d/\HasL K G vs ds/\Out K EX G H (fn d ds) Q
abbrev MtD(X:Cx)(id:String)(fn:D->List D->R W):Prop:=MtR X id (rDm X.K fn)
def eMeth(T:String)(fn:D->List D->R W)(f:FE)(fa:FA):FE:=λ δ=>(f δ).bind λw=>if tyD T w.d=true then(fa δ).bind λds=>fn w.d ds else .no
variable{o:Expr}{name:Str}{zg zf:Pos}{T id:String}{fn:D->List D->R W}
theorem by_2(pa:PlainAttrs T)(slot:Slot T name id)(hty:typeOf (.builtin id)=pure (.type "method_descriptor"))(hm:MtD X id fn)(ho:ED X EX o f)(ha:AD X EX (e::es) fa)
  (af:attributeBase o name X.env (eval o X.env)=eval o X.env:=by rfl)
  (ba:((backTo zf (starEach (e::es) X.env)).all (λx=> !x.1) && (backToKw zf (keywordEach [] X.env)).all (λx=>x.1.isSome)
   && decide ((e::es).length + ([]:List Keyword).length + (if([]:List Keyword).isEmpty then 0 else 1) < 30))=true:=by rfl)
  (ag:(zg.endLine ==zf.line)=true:=by rfl) (hs:starEach (e::es) X.env=(false,eval e X.env)::starEach es X.env:=by rfl) (ah:(backTo zf (starEach es X.env)).any (·.1)=false:=by rfl):
  ED X EX (.Call (.Attribute o name zg) (e::es) [] zf) (eMeth T fn f fa):=
 PE.imp (bx_2 pa slot hty hm ho ha af ba ag hs ah) λ σ H Q ⟨G,δ,g0,s0,o⟩=>tD.seq g0 s0 o λw v G1 H1 _ st1 r1 o1=>by
  split at o1
  ·rename_i ht;exact⟨dr_3 st1.gh r1 ht,tDa.seq st1.gh (s0.mono st1.gg) o1 λds vs G2 H2 _ st2 r2 o2=>⟨_,G2,w.d,ds,st2.gh,r1.mono st2.gg,r2,o2⟩⟩
  ·exact o1.elim
def eMeth0(T:String)(fn:D->List D->R W)(f:FE):FE:=λ δ=>(f δ).bind λw=>if tyD T w.d=true then fn w.d [] else .no
theorem by_3{G:Hp}{d:D}{vs:List V}{ds:List D}(r:Has K G v d)(rl:HasL K G vs ds){P:Prop}(h:∀x y,v=.str x->d=.str x->vs= [.str y]->ds= [.str y]->P)(n:(∀x y,¬(d=.str x/\ds= [.str y]))->P):P:=by
 by_cases e:∃x y,d=.str x/\ds= [.str y]
 ·obtain⟨x,y,rfl,rfl⟩:=e;cases r;cases rl with
  |cons a t=>cases a;cases t;exact h x y rfl rfl rfl rfl
 ·exact n λx y z=>e ⟨x,y,z⟩
def bk_2:D->List D->R W
 | .str x,[.str y]=> .ok (.sh (.int (Txt.find x y)))
 |_,_=> .no
theorem cn_0:MtD X "str.find" bk_2:=by
 intro zd s σ H x vs v us Q I rx rv h;obtain⟨EX,G,d,ds,g,r,rl,o⟩:=h;refine by_3 r rl (λx y e1 e2 e3 e4=> ?_) λn=> ?_
 ·subst e1 e2 e3 e4;obtain⟨t,rfl⟩:=rx;obtain⟨u,rfl,t',rfl⟩:=rv.one;exact SC.find ⟨.int _,H,I.tok _,⟨_,rfl⟩,Dc o g (.int _)⟩
 ·have e:bk_2 d ds=.no:=by
   unfold bk_2
   split
   ·rename_i x y;exact absurd ⟨rfl,rfl⟩ (n x y)
   ·rfl
  rw [e] at o;exact o.elim
def Cq(T:String):D->Option Bool
 | .non=>some false
 | .bl _=>some (T == "bool" || T == "int")
 | .int _=>some (T == "int")
 | .str _=>some (T == "str")
 | .lst _=>some (T == "list")
 | .tup _=>some (T == "tuple")
 |_=>none
def eIs(T:String)(f:FE):FE:=λ δ=>(f δ).bind λw=>match Cq T w.d with
 |some k=> .ok (.sh (.bl k))
 |none=> .no
structure KitT(K:Frag)(T:String):Prop where
 non:kitOne K (.type "NoneType") (.type T)=some false
 bl:kitOne K (.type "bool") (.type T)=some (T == "bool" || T == "int")
 int:kitOne K (.type "int") (.type T)=some (T == "int")
 str:kitOne K (.type "str") (.type T)=some (T == "str")
 lst:kitOne K (.type "list") (.type T)=some (T == "list")
 tup:kitOne K (.type "tuple") (.type T)=some (T == "tuple")
theorem cn_1{T:String}(k:KitT X.K T):CallR X (.builtin "isinstance") (λxs H Q=>∃G x d b,xs= [x,.ty T]/\Same G H/\Has X.K G x d/\Cq T d=some b/\Q (.bl b) H):=by
 intro zd s σ H xs us Q I rv h;obtain⟨G,x,d,b,rfl,g,r,e,q⟩:=h;obtain⟨u,u2,rfl,r1,r2⟩:=rv.two;cases r2;have fin:∀tk,EP X zd σ Q (.bool b) {s with toks:=tk}:=λtk=>⟨.bl b,H,I.tok _,rfl,q⟩;cases r with
 |non=>cases r1;exact kia_one kitx_none I.kIn True.intro (k.non.trans e) (λz=>nomatch z) fin
 |bl y=>cases r1;exact kia_one kitx_bool I.kIn True.intro (k.bl.trans e) (λz=>nomatch z) fin
 |int i=>obtain⟨t,rfl⟩:=r1;exact kia_one kitx_int I.kIn True.intro (k.int.trans e) (λz=>nomatch z) fin
 |str y=>obtain⟨t,rfl⟩:=r1;exact kia_one kitx_str I.kIn True.intro (k.str.trans e) (λz=>nomatch z) fin
 |lst h r=>
  cases r1;obtain⟨its,_,⟨ob,n,e1,c,_,_⟩,_⟩:=I.list (g.seq h);exact kia_one kitx_list I.kIn ⟨ob,e1,c⟩ (k.lst.trans e) (λz=>nomatch z) fin
 |tup h r=>
  cases r1;obtain⟨its,_,⟨ob,e1,c,_⟩,_⟩:=I.tuple (Same.tupS g h);exact kia_one kitx_tuple I.kIn ⟨ob,e1,c⟩ (k.tup.trans e) (λz=>nomatch z) fin
 |exn0 _ _=>cases e
 |exn1 _ _ _ _ _=>cases e
 |dic _ _ _=>cases e
 |obj _ _ _ _=>cases e
theorem q_9{Tn:Str}{T:String}{pp p3:Pos}(k:KitT X.K T)(ha:ED X EX a f)(hm:X.mg "isinstance" =none)(hmT:X.mg Tn=none)(hvT:bootBuiltins Tn=some (.type T))(hg:Gl X "isinstance" :=by rfl)(hgT:Gl X Tn:=by rfl)
  (hn:Tn≠ "__name__" :=by decide) (hdT:(Tn ==("__debug__" :Str))=false:=by decide)
  (he:starEach [a,.Name Tn p3] X.env=(false,eval a X.env)::starEach [.Name Tn p3] X.env:=by rfl) (hpl:(backTo pos (starEach [.Name Tn p3] X.env)).any (·.1)=false:=by rfl)
  (hs:starEach [.Name Tn p3] X.env=(false,eval (.Name Tn p3) X.env)::starEach [] X.env:=by rfl):ED X EX (.Call (.Name "isinstance" pp) [a,.Name Tn p3] [] pos) (eIs T f):=
 PE.imp (bi_6 (cn_1 k) hg hm boot_isinstance (i_7 ha (i_7 (cv_2 (v:=.ty T) hgT hmT hvT rfl hn hdT) o_9 hs) he) (by decide) (by decide) he hpl) λ σ H Q ⟨G,δ,g0,s0,o⟩=>tD.seq g0 s0 o λw v G1 H1 _ st1 r1 o1=>by
  split at o1
  ·rename_i b e;exact⟨G1,v,w.d,b,rfl,st1.gh,r1,e,Dc o1 st1.gh (.bl b)⟩
  ·exact o1.elim
end
def ar_3(K:Frag):Sp:=λvs H Q _=>∃(a:Addr) (ns:List Int),vs= [.ref a]/\SqL K H a (ns.map V.int)/\ns.length<=63/\∀H',Q (.bl true) H'
theorem by_4{G:Hp}:∀ns:List Int,HasL K G (ns.map V.int) (ns.map D.int)
 | []=> .nil
 |n::ns=> .cons (.int n) (by_4 ns)
theorem dk_9{P:Program}{w:World}{k:Nat}{f:Addr}{x:Str}{F:List D->R W}(h:FnX P w K mg base true k f fd [x] (Ca K 1 F))
  (hF:∀ns:List Int,ns.length<=63->∃v,F [.lst (ns.map D.int)]=.ok v/\v.d=.bl true):FnOk P w K mg base CX0 k f fd [x] (ar_3 K):=by
 have hs:∀vs H Q E,ar_3 K vs H Q E->Ca K 1 F vs H Q λ_ _ _=>False:=λvs H Q E q=>by
  obtain⟨a,ns,rfl,hS,hl,q⟩:=q;obtain⟨v,e,ev⟩:=hF ns hl;refine⟨rfl,H,[.lst (ns.map D.int)],Same.refl _,.cons (.lst hS (by_4 ns)) .nil, ?_⟩;rw [e];refine WP.intro λu G' H' st r=> ?_;rw [ev] at r;cases r;exact q H'
 refine⟨λvs H Q E q=>(hs vs H Q E q).1,λA outer s H args us vs Q E hr e0 hb hv q=>codeAny_mono (h.run A outer s H args us vs Q _ (RoomC.of hr) e0 hb hv (hs vs H Q E q)) λr s' hq=> ?_⟩;cases r with
 |error e=>
  obtain⟨a,C,dx,T,H',_,_,_,_,_,_,_,_,_,_,z⟩:=hq;exact z
 |ok fl=>cases fl <;> exact hq
theorem dr_4{l:PySem.W.OpenLaw}{q:Program}{loose:List Str}{XP:(Str->Option Value)->Heap->Prop}{YP:World->Heap->Prop}{d:DefRec}{K:Params->Frag}{x:Str}{k:Nat}(hn:l.most=some 63)(hdf:d.params.defaults= [])(hr:Room k callerA)
  (hY:∀(w:World) (h:Heap),YP w h->(K w.params).In h)
  (F:∀(w:World) (mg:Str->Option Value) (fa:Addr) (h:Heap),(K w.params).In h->h.Ns mainGlobals mg->mg d.name=some (.ref fa)->
   ∃fd:FuncData,(∀(s:Shared) (u:Value),BindsTo s fd ⟨[u],[]⟩ [(x,u)])/\∀base:Heap,(K w.params).In base->base.Ns mainGlobals mg->FnOk l.prog w (K w.params) mg base CX0 k fa fd [x] (ar_3 (K w.params))):
  PySem.W.WalkO q loose XP YP l.row.toRowW d [] (λf vs=>PySem.call f vs):=
 cw_5 (n:=63) (k:=k) (x:=x) (CX:=λ_=>CX0) (sp:=λw=>ar_3 (K w.params)) hn (by decide) hdf hr hY F (λ_ _ a ns hl _ hS=>⟨a,ns,rfl,hS,hl,λ_=>rfl⟩) λ_ _ _ _ _ z=>z
theorem Inv.pair{zd:List (Addr×Obj)}{σ:Sg}{s:Shared}{e it:Addr}{h':Heap}{tk:Nat}{its:List Value}{vs:List V}(I:Inv X zd σ H s)(fe:u_9 X zd H e)(fi:u_9 X zd H it)
  (k:∀b o,b≠e->b≠it->s.heap.get? b=some o->h'.get? b=some o) (he:∃o,h'.get? e=some o) (hi:∃o,h'.get? it=some o) (ht:h'.get? s.heap.objs.size=some {cls:=.type "tuple",data:=.seq its.toArray}) (rv:Vals vs its) (hz:vs.length<=sizeLine):
  Inv X zd σ (upd H s.heap.objs.size (.tup vs)) {s with heap:=h',toks:=tk}:=by
 have hn:H s.heap.objs.size=none:=I.hok.fresh (Nat.le_refl _);obtain⟨e0,e1,e2,e3,e4,e5⟩:=fe;obtain⟨i0,i1,i2,i3,i4,i5⟩:=fi;have neH:∀b u,H b=some u->b≠e/\b≠it:=λb u q=>⟨λz=>(by rw [z,e0] at q;cases q),λz=>(by rw [z,i0] at q;cases q)⟩;have lt:∀b o,s.heap.get? b=some o->b≠s.heap.objs.size:=λb o q=>Nat.ne_of_lt (Heap.lt_size q);refine I.step (g':=s.gens) (d':=s.drawn) (ch:=[e,it]) (λb hb=> ?_) (λb o _ _ hc q _=>k b o (λz=>hc (by simp [z])) (λz=>hc (by simp [z])) q)
  (λb o _ _ hc q _=>⟨o.slots,k b o (λz=>hc (by simp [z])) (λz=>hc (by simp [z])) q⟩) (λb o _ q n=>by rw [An (lt b o q)];exact n) (λb o hc q=>⟨o,k b o (λz=>hc (by simp [z])) (λz=>hc (by simp [z])) q⟩)
  (λb xs q=>by rw [An (Ef q hn)];exact q) (λb o u q=>by rw [An (Ef q hn)];exact q) (λb ps q=>⟨#[],by rw [An (Ef q hn),q];simp⟩) (λm hm=> ?_) (λb u q=> ?_) I.bare
 ·have hb':b=e\/b=it:=by simpa using hb
  rcases hb' with rfl|rfl
  ·exact⟨e3,e1,e4,e5⟩
  ·exact⟨i3,i1,i4,i5⟩
 ·obtain⟨o,es,ep,ho,r⟩:=hm;exact⟨o,es,ep,k _ o (Ne.symm e1) (Ne.symm i1) ho,r⟩
 ·by_cases z:b=s.heap.objs.size
  ·subst z;rw [Ba] at q;cases q;exact⟨hz,its,rv,⟨_,ht,rfl,0,rfl⟩⟩
  ·rw [An z] at q;refine(I.hok b u q).stay (λc v hc r=> ?_) (λc r=>by rw [An (Ef r hn)];exact r) λc xs r=>by rw [An (Ef r hn)];exact r
   rcases hc with rfl|hc
   ·exact k c v (neH c u q).1 (neH c u q).2 r
   ·exact k c v (neH c _ hc).1 (neH c _ hc).2 r
theorem Inv.turned2{zd:List (Addr×Obj)}{σ:Sg}{s:Shared}{e it:Addr}{h':Heap}{tk:Nat}(I:Inv X zd σ H s)(fe:u_9 X zd H e)(fi:u_9 X zd H it)
  (k:∀b o,b≠e->b≠it->s.heap.get? b=some o->h'.get? b=some o):Inv X zd σ H {s with heap:=h',toks:=tk}:=by
 obtain⟨e0,e1,e2,e3,e4,e5⟩:=fe;obtain⟨i0,i1,i2,i3,i4,i5⟩:=fi;have neH:∀b u,H b=some u->b≠e/\b≠it:=λb u q=>⟨λz=>(by rw [z,e0] at q;cases q),λz=>(by rw [z,i0] at q;cases q)⟩;refine I.step (g':=s.gens) (d':=s.drawn) (ch:=[e,it]) (λb hb=> ?_) (λb o _ _ hc q _=>k b o (λz=>hc (by simp [z])) (λz=>hc (by simp [z])) q)
  (λb o _ _ hc q _=>⟨o.slots,k b o (λz=>hc (by simp [z])) (λz=>hc (by simp [z])) q⟩) (λb o _ q n=>n) (λb o hc q=>⟨o,k b o (λz=>hc (by simp [z])) (λz=>hc (by simp [z])) q⟩)
  (λb xs q=>q) (λb o u q=>q) (λb ps q=>⟨#[],by rw [q];simp⟩) (λm hm=> ?_) (λb u q=> ?_) I.bare
 ·have hb':b=e\/b=it:=by simpa using hb
  rcases hb' with rfl|rfl
  ·exact⟨e3,e1,e4,e5⟩
  ·exact⟨i3,i1,i4,i5⟩
 ·obtain⟨o,es,ep,ho,r⟩:=hm;exact⟨o,es,ep,k _ o (Ne.symm e1) (Ne.symm i1) ho,r⟩
 ·refine(I.hok b u q).stay (λc v hc r=> ?_) (λc r=>r) λc xs r=>r;rcases hc with rfl|hc
  ·exact k c v (neH c u q).1 (neH c u q).2 r
  ·exact k c v (neH c _ hc).1 (neH c _ hc).2 r
def enL(K:Frag)(l:Addr):It:=
 ⟨λi H=>∃xs x,SqL K H l xs/\xs[i]? =some x,λi H v H'=>∃p,H p=none/\v=.ref p/\∀xs x,SqL K H l xs->xs[i]? =some x->H'=upd H p (.tup [.int (i:Int),x]),λi H=>∃xs,SqL K H l xs/\xs.length=i⟩
def enS(z:Str):It:=
 ⟨λi _=>i < z.cps.size,λi H v H'=>∃p c,H p=none/\v=.ref p/\z.cps[i]? =some c/\H'=upd H p (.tup [.int (i:Int),.str ⟨#[c]⟩]),λi _=>i=z.cps.size⟩
theorem cn_2{P:Program}{w:World}{elts:List Expr}{x1:Nat}(e it l:Addr)(hei:e≠it):Turn P w K (.Tuple elts x1 pos) (enL K l) [e,it] e (λi h=>(∃old,IsEnum h e it (i:Int) old)/\h.IsListIter it l i) where
 mem:=by simp
 obj:=λi h st b hb=>by
  have hb':b=e\/b=it:=by simpa using hb
  rcases hb' with rfl|rfl
  ·obtain⟨⟨old,q⟩,_⟩:=st;exact⟨_,q,λv z=>by cases z⟩
  ·obtain⟨_,⟨o,q,c,d⟩⟩:=st;exact⟨o,q,λv z=>by rw [d] at z;cases z⟩
 keep:=λi h h' st k=>by
  obtain⟨⟨old,q⟩,r⟩:=st;exact⟨⟨old,k e (by simp) _ q⟩,r.at λo z=>k it (by simp) o z⟩
 item:=by
  intro X hP hw hK hc i zd s σ H E I hf st hg;subst hP hw hK;obtain⟨xs,x,hq,hx⟩:=hg;obtain⟨its,rv,p,hz⟩:=I.list hq;obtain⟨u,hu,ru⟩:=rv.get hx;obtain⟨⟨old,he⟩,hit⟩:=st;have fe:=hf e (by simp);have fi:=hf it (by simp);have pl:=p.isList;have nle:l≠e:=λz=>by
   subst z;obtain⟨o,ho,hc',_⟩:=pl;rw [show s.heap.get? l=_ from he] at ho;cases ho;exact absurd hc' (by simp)
  have nli:l≠it:=λz=>by
   subst z;obtain⟨o,ho,hc',_⟩:=pl;obtain⟨o',ho',hc2,_⟩:=hit;rw [ho] at ho';cases ho';rw [hc'] at hc2;exact absurd hc2 (by simp)
  have hlt:i < its.toArray.size:=by
   have:=(List.getElem?_eq_some_iff.mp hu).1;simpa using this
  refine wpAny_pyNext_enum_itemD (Draws.list (A:=X.A.in1) (I.ok.hd hc) it l nli its.toArray) he ⟨hit,pl⟩ hlt hei (by simp [hei,Ne.symm nle]) λy h' tk hy ho hst bw hsz kk=> ?_;have ey:y=u:=by
   have:its.toArray[i]? =some u:=by simpa using hu
   rw [this] at hy;exact(Option.some.inj hy).symm
  subst ey;refine⟨_,rfl,wpAny_letOwnedTupleGo_enum ho λh'' av sb=> ?_⟩;have bb:∃old,IsEnum h'' e it ((i + 1:Nat):Int) old:=⟨_,by
   have e1:((i + 1:Nat):Int)=(i:Int) + 1:=by omega
   rw [e1];exact av⟩
  refine⟨.ref s.heap.objs.size,upd H s.heap.objs.size (.tup [.int (i:Int),x]), ?_,rfl,⟨_,I.hok.fresh (Nat.le_refl _),rfl,λys y' hy' ey'=> ?_⟩,⟨bb, ?_⟩,λb hb=> ?_⟩
  ·have ne:s.heap.objs.size≠e:=λz=>absurd (Heap.lt_size he) (by rw [<-z];exact Nat.lt_irrefl _);refine Inv.pair (its:=[.int (i:Int) tk,y]) I fe fi (λb o h1 h2 q=>(sb.2 b h1).trans (kk b o h1 h2 q)) ⟨_,av⟩ ?_ ((sb.2 _ ne).trans bw) (.cons ⟨_,rfl⟩ (.cons ru .nil)) (by show 2<=sizeLine;decide);obtain⟨⟨o,q,_⟩,_⟩:=hst;exact⟨o,(sb.2 it (Ne.symm hei)).trans q⟩
  ·have:=I.list_inj hy' hq;subst this;rw [hx] at ey';cases ey';rfl
  ·exact hst.1.at λo z=>(sb.2 it (Ne.symm hei)).trans z
  ·have hb':b=e\/b=it:=by simpa using hb
   have hbl:b < s.heap.objs.size:=by
    rcases hb' with rfl|rfl
    ·exact Heap.lt_size he
    ·obtain⟨o,q,_⟩:=hit;exact Heap.lt_size q
   rw [An (Nat.ne_of_lt hbl)];exact(hf b hb).1
 done:=by
  intro X hP hw hK hc i zd s σ H E I hf st hg;subst hP hw hK;obtain⟨xs,hq,hx⟩:=hg;obtain⟨its,rv,p,hz⟩:=I.list hq;obtain⟨⟨old,he⟩,hit⟩:=st;have hl:=rv.length;have pl:=p.isList;have nli:l≠it:=λz=>by
   subst z;obtain⟨o,ho,hc',_⟩:=pl;obtain⟨o',ho',hc2,_⟩:=hit;rw [ho] at ho';cases ho';rw [hc'] at hc2;exact absurd hc2 (by simp)
  have en:i=its.toArray.size:=by simp;omega
  refine wpAny_pyNext_enum_endD (Draws.list (A:=X.A.in1) (I.ok.hd hc) it l nli its.toArray) he (by rw [<-en];exact⟨hit,pl⟩) λh' eb=>⟨rfl, ?_⟩;exact Inv.turned2 (tk:=s.toks) I (hf e (by simp)) (hf it (by simp)) λb o h1 h2 q=>eb b o h2 q
 self:=λA i s Q E st h=>by
  obtain⟨⟨old,he⟩,_⟩:=st;exact wpAny_pyIter_enum he h
theorem az_7{prog:Program}{w:World}{A:Around}(hh:A.handled=none)(it:Addr)(x:Str)(t:Tok):
  Draws prog w A it [it] x.cps.size (λi v=>∃c u,x.cps[i]? =some c/\v=.str ⟨#[c]⟩ u) (λi h=>h.IsStrIter it (strIterType x) x t i):=by
 unfold strIterType;cases ha:x.cps.all (· < 128)
 ·exact Draws.strWide hh it x t
 ·exact Draws.strAscii hh it x t
theorem cn_3{P:Program}{w:World}{elts:List Expr}{x1:Nat}(e it:Addr)(z:Str)(t:Tok)(hei:e≠it):Turn P w K (.Tuple elts x1 pos) (enS z) [e,it] e (λi h=>(∃old,IsEnum h e it (i:Int) old)/\h.IsStrIter it (strIterType z) z t i) where
 mem:=by simp
 obj:=λi h st b hb=>by
  have hb':b=e\/b=it:=by simpa using hb
  rcases hb' with rfl|rfl
  ·obtain⟨⟨old,q⟩,_⟩:=st;exact⟨_,q,λv z=>by cases z⟩
  ·obtain⟨_,⟨o,q,c,d⟩⟩:=st;exact⟨o,q,λv z=>by rw [d] at z;cases z⟩
 keep:=λi h h' st k=>by
  obtain⟨⟨old,q⟩,⟨o,r,c⟩⟩:=st;exact⟨⟨old,k e (by simp) _ q⟩,⟨o,k it (by simp) o r,c⟩⟩
 item:=by
  intro X hP hw hK hc i zd s σ H E I hf st hg;subst hP hw hK;obtain⟨⟨old,he⟩,hit⟩:=st;have fe:=hf e (by simp);have fi:=hf it (by simp);refine wpAny_pyNext_enum_itemD (az_7 (A:=X.A.in1) (I.ok.hd hc) it z t) he hit hg hei (by simp [hei]) λy h' tk hy ho hst bw hsz kk=> ?_;obtain⟨c,uc,hcx,rfl⟩:=hy;refine⟨_,rfl,wpAny_letOwnedTupleGo_enum ho λh'' av sb=> ?_⟩;have bb:∃old,IsEnum h'' e it ((i + 1:Nat):Int) old:=⟨_,by
   have e1:((i + 1:Nat):Int)=(i:Int) + 1:=by omega
   rw [e1];exact av⟩
  refine⟨.ref s.heap.objs.size,upd H s.heap.objs.size (.tup [.int (i:Int),.str ⟨#[c]⟩]), ?_,rfl,⟨_,c,I.hok.fresh (Nat.le_refl _),rfl,hcx,rfl⟩,⟨bb, ?_⟩,λb hb=> ?_⟩
  ·have ne:s.heap.objs.size≠e:=λz=>absurd (Heap.lt_size he) (by rw [<-z];exact Nat.lt_irrefl _);refine Inv.pair (its:=[.int (i:Int) tk,.str ⟨#[c]⟩ uc]) I fe fi (λb o h1 h2 q=>(sb.2 b h1).trans (kk b o h1 h2 q)) ⟨_,av⟩ ?_ ((sb.2 _ ne).trans bw) (.cons ⟨_,rfl⟩ (.cons ⟨_,rfl⟩ .nil)) (by show 2<=sizeLine;decide);obtain⟨o,q,_⟩:=hst;exact⟨o,(sb.2 it (Ne.symm hei)).trans q⟩
  ·obtain⟨o,q,r⟩:=hst;exact⟨o,(sb.2 it (Ne.symm hei)).trans q,r⟩
  ·have hb':b=e\/b=it:=by simpa using hb
   have hbl:b < s.heap.objs.size:=by
    rcases hb' with rfl|rfl
    ·exact Heap.lt_size he
    ·obtain⟨o,q,_⟩:=hit;exact Heap.lt_size q
   rw [An (Nat.ne_of_lt hbl)];exact(hf b hb).1
 done:=by
  intro X hP hw hK hc i zd s σ H E I hf st hg;subst hP hw hK;obtain⟨⟨old,he⟩,hit⟩:=st;have en:i=z.cps.size:=hg;refine wpAny_pyNext_enum_endD (az_7 (A:=X.A.in1) (I.ok.hd hc) it z t) he (by rw [<-en];exact hit) λh' eb=>⟨rfl, ?_⟩;exact Inv.turned2 (tk:=s.toks) I (hf e (by simp)) (hf it (by simp)) λb o h1 h2 q=>eb b o h2 q
 self:=λA i s Q E st h=>by
  obtain⟨⟨old,he⟩,_⟩:=st;exact wpAny_pyIter_enum he h
def w_7(k:Nat):List D->List D
 | []=> []
 |d::ds=> .tup [.int (k:Int),d]::w_7 (k + 1) ds
theorem aa_0:∀{ds:List D} {k i:Nat} {d:D},(w_7 k ds)[i]? =some d->∃d',ds[i]? =some d'/\d=.tup [.int ((k + i:Nat):Int),d']
 | [],_,_,_,h=>by simp [w_7] at h
 |x::ds,k,0,d,h=>by simp [w_7] at h;exact⟨x,rfl,h.symm⟩
 |x::ds,k,i + 1,d,h=>by
  obtain⟨d',e1,e2⟩:=aa_0 (ds:=ds) (k:=k + 1) (i:=i) (by simpa [w_7] using h);exact⟨d',by simpa using e1,by rw [e2,show k + 1 + i=k + (i + 1) by omega]⟩
theorem aa_1:∀(ds:List D) (k:Nat),(w_7 k ds).length=ds.length
 | [],_=>rfl
 |_::ds,k=>by simp [w_7,aa_1 ds (k + 1)]
def dl_0:D->R (List D)
 | .lst ds=> .ok (w_7 0 ds)
 | .str x=> .ok (w_7 0 (s_6 x))
 |_=> .no
section
variable{X:Cx}{EX:Ay}{a:Expr}{f:FE}{elts:List Expr}{x1:Nat}{tp p pos:Pos}
def iEn(K:Frag)(t:TA):TI:=λ σ H Q=>t σ H λvs H1=>(∃l,vs= [.ref l]/\(∃xs,SqL K H1 l xs)/\Q (enL K l) H1)\/(∃z,vs= [.str z]/\Q (enS z) H1)
theorem cy_4{ta:TA}(hg:Gl X "enumerate")(hm:X.mg "enumerate" =none)(ha:PA X [a] ta)(hs:starEach [a] X.env= [(false,eval a X.env)]:=by rfl):PI X (.Tuple elts x1 tp) (.Call (.Name "enumerate" p) [a] [] pos) (iEn X.K ta):=by
 intro zd s σ H Q I h;refine Call_ (ac_5 I hg hm PyProof.Rows.boot_enumerate (PyProof.Rows.callWith_type1 (Aw (ha pos zd s σ H _ I h) λus s1 ⟨vs,H1,I1,r1,q1⟩=> ?_) hs rfl));rcases q1 with⟨l,rfl,⟨xs,hq⟩,q⟩|⟨z,rfl,q⟩
 ·obtain⟨u,rfl,ru⟩:=r1.one;cases ru;obtain⟨its,rv,pl,hz⟩:=I1.list hq;refine call_enumerate_list pl.isList λh' he hit hsz kk=>wpAny_pyIter_enum he ?_;refine⟨s1.heap.objs.size + 1,[s1.heap.objs.size + 1,s1.heap.objs.size],_,enL X.K l,H1,rfl,I1.kept (t':=s1.toks) kk,cn_2 _ _ l (Nat.succ_ne_self _),⟨⟨_,he⟩,hit⟩,λb hb=> ?_,q⟩;have hb':b=s1.heap.objs.size + 1\/b=s1.heap.objs.size:=by simpa using hb
  have hbl:s1.heap.objs.size<=b:=by
   rcases hb' with rfl|rfl
   ·exact Nat.le_succ _
   ·exact Nat.le_refl _
  exact I1.fpOk hbl (I1.hok.fresh hbl)
 ·obtain⟨u,rfl,t,rfl⟩:=r1.one;refine call_enumerate_str λh' he hit hsz kk=>wpAny_pyIter_enum he ?_;refine⟨s1.heap.objs.size + 1,[s1.heap.objs.size + 1,s1.heap.objs.size],_,enS z,H1,rfl,I1.kept (t':=s1.toks) kk,cn_3 _ _ z t (Nat.succ_ne_self _),⟨⟨_,he⟩,hit⟩,λb hb=> ?_,q⟩;have hb':b=s1.heap.objs.size + 1\/b=s1.heap.objs.size:=by simpa using hb
  have hbl:s1.heap.objs.size<=b:=by
   rcases hb' with rfl|rfl
   ·exact Nat.le_succ _
   ·exact Nat.le_refl _
  exact I1.fpOk hbl (I1.hok.fresh hbl)
theorem cy_5{G:Hp}{l:Addr}{vs:List V}{ds:List D}(h:SqL K G l vs)(r:HasL K G vs ds):ItD K G (enL K l) (w_7 0 ds):=λG' H g1 g i=>by
 refine⟨λd e=> ?_,λe=> ?_⟩
 ·obtain⟨d',e1,rfl⟩:=aa_0 e;obtain⟨v,e2,hv⟩:=r.get e1;refine⟨⟨vs,v,(g1.trans g).seq h,e2⟩,λx H' y=> ?_⟩;obtain⟨p,hp,rfl,y⟩:=y;have:=y vs v ((g1.trans g).seq h) e2;subst this;refine⟨_,Step.new g hp _,.tup (SqT.of Ba) (.cons (by rw [Nat.zero_add];exact .int _) (.cons (hv.mono (g1.trans (g_4 (g.free hp) _))) .nil))⟩
 ·rw [aa_1] at e;exact⟨vs,(g1.trans g).seq h,by rw [r.length];exact e⟩
theorem cy_6{G:Hp}(z:Str):ItD K G (enS z) (w_7 0 (s_6 z)):=λG' H g1 g i=>by
 refine⟨λd e=> ?_,λe=> ?_⟩
 ·obtain⟨d',e1,rfl⟩:=aa_0 e;unfold s_6 at e1;rw [List.getElem?_map] at e1;cases q:z.cps.toList[i]? with
  |none=>rw [q] at e1;cases e1
  |some c=>
   rw [q] at e1;cases e1;have hi:i < z.cps.size:=by
    have:=(List.getElem?_eq_some_iff.mp q).1;simpa using this
   refine⟨hi,λx H' y=> ?_⟩;obtain⟨p,c',hp,rfl,hc,rfl⟩:=y;have:z.cps.toList[i]? =some c':=by simpa using hc
   rw [q] at this;cases this;refine⟨_,Step.new g hp _,.tup (SqT.of Ba) (.cons (by rw [Nat.zero_add];exact .int _) (.cons (.str _) .nil))⟩
 ·rw [aa_1] at e;unfold s_6 at e;rw [List.length_map] at e;show i=z.cps.size;simp at e;omega
end
def C3(i j c:Int):Prop:=0<=i/\i.natAbs < 1073741824/\j.natAbs < 1073741824/\0 < c/\c.natAbs < 1073741824
instance (i j c:Int):Decidable (C3 i j c):=by unfold C3;exact inferInstance
section
variable{X:Cx}{EX:Ay}{tg a b c:Expr}{fa:FA}{ta:TA}{p pos:Pos}
end
section
variable{X:Cx}{EX:Ay}{a:Expr}{f:FE}{pos:Pos}
def negD:D->R W
 | .int i=> .ok (.sh (.int (-i)))
 |_=> .no
def eNeg(f:FE):FE:=λ δ=>(f δ).bind λw=>negD w.d
theorem cn_4(ha:ED X EX a f):ED X EX (.UnaryOp .USub a pos) (eNeg f):=
 PE.imp (dp_5 di_5 ha) λ σ H Q ⟨G,δ,g0,s0,o⟩=>tD.seq g0 s0 o λw v G1 H1 _ st1 r1 o1=>by
  revert r1 o1;cases w.d with
  |int i=>intro r1 o1;cases r1;exact⟨i,rfl,Dc o1 st1.gh (.int _)⟩
  |_=>intro _ o1;exact False.elim o1
def ai_2:List D->Option (List Bool)
 | []=>some []
 | .bl b::ds=>(ai_2 ds).map (b:: ·)
 |_=>none
def allD:List D->R W
 | [.lst ds]=>match ai_2 ds with
  |some bs=> .ok (.sh (.bl (bs.all id)))
  |none=> .no
 |_=> .no
theorem bk_3{G:Hp}:∀{vs:List V} {ds:List D} {us:List Value} {bs:List Bool},HasL K G vs ds->Vals vs us->ai_2 ds=some bs->us=bs.map Value.bool
 |_,_,_,_,.nil,r,e=>by cases r;cases e;rfl
 |_,_,_,_,.cons h t,r,e=>by
  cases r with
  |cons r1 r2=>
   cases h with
   |bl x=>
    cases r1;simp only [ai_2] at e;obtain⟨zs,q,rfl⟩:=Option.map_eq_some_iff.mp e;rw [List.map_cons,bk_3 t r2 q]
   |_=>cases e
theorem cf_7(bs:List Bool):(List.range bs.length).all (λi=>bs.getD i true)=bs.all id:=by
 rw [Bool.eq_iff_iff,List.all_eq_true,List.all_eq_true];constructor
 ·intro h b hb;obtain⟨i,hi,e⟩:=List.getElem_of_mem hb;have:=h i (List.mem_range.mpr hi);simp [hi] at this;rw [<-e];exact this
 ·intro h i hi;have hi:=List.mem_range.mp hi;simp [hi];exact h _ (List.getElem_mem hi)
theorem cf_8(hc:X.calm=true):x_0 X (.builtin "all") allD:=by
 intro zd s σ H vs us Q I rv q;obtain⟨EX,G,ds,g,r,o⟩:=q;cases r with
 |nil=>exact False.elim o
 |cons h t=>
  cases t with
  |cons _ _=>cases h <;> exact False.elim o
  |nil=>
   cases h with
   |lst h r=>
    rename_i l _ _;simp only [allD] at o
    split at o
    ·rename_i bs e;obtain⟨u,rfl,ru⟩:=rv.one;cases ru;obtain⟨its,rv',pl,hz⟩:=I.list (g.seq h);have eb:=bk_3 r rv' e;subst eb;have nl:l≠s.heap.objs.size:=λz=>by
      obtain⟨o',ho,_⟩:=pl.isList;exact absurd (Heap.lt_size ho) (by rw [<-z];exact Nat.lt_irrefl _)
     refine call_all_walk (wpAny_pyIter_list pl.isList ⟨s.heap.objs.size,_,_,_,_,_,λi=>bs.getD i true,rfl,Walks.list (A:=X.A.in1) (I.ok.hd hc) s.heap.objs.size l nl (bs.map Value.bool).toArray,⟨⟨_,Heap.get?_push_size _ rfl,rfl,rfl⟩, ?_⟩,λi v s' Q' E' hP hQ=> ?_,λh' tk kk=> ?_⟩)
     ·exact pl.isList.at λo z=>Heap.get?_push_of_some _ z
     ·have hP':(bs.map Value.bool)[i]? =some v:=by simpa using hP
      rw [List.getElem?_map] at hP';cases q:bs[i]? with
      |none=>rw [q] at hP';cases hP'
      |some b=>
       rw [q] at hP';cases hP';have:bs.getD i true=b:=by simp [List.getD,q]
       dsimp only at hQ;rw [this] at hQ;exact wpAny_truthy_bool hQ
     ·have en:(bs.map Value.bool).toArray.size=bs.length:=by simp
      rw [en,cf_7];refine⟨.bl _,H,I.kept (t':=tk) λb o' z=>kk b o' (by
       have hb:b≠s.heap.objs.size:=Nat.ne_of_lt (Heap.lt_size z);simpa using hb) (Heap.get?_push_of_some _ z),rfl,Dc o g (.bl _)⟩
    ·exact o.elim
   |_=>exact False.elim o
def ai_3:D->List D->R W
 | .str x,[.str y]=>match Builtin.Str.occurrences x y 0 x.length 1 with
  |i::_=> .ok (.sh (.int (i:Nat)))
  | []=> .no
 |_,_=> .no
theorem cf_9:MtD X "str.index" ai_3:=by
 intro zd s σ H x vs v us Q I rx rv h;obtain⟨EX,G,d,ds,g,r,rl,o⟩:=h;refine by_3 r rl (λx y e1 e2 e3 e4=> ?_) λn=> ?_
 ·subst e1 e2 e3 e4;obtain⟨t,rfl⟩:=rx;obtain⟨u,rfl,t',rfl⟩:=rv.one;simp only [ai_3] at o
  split at o
  ·rename_i i w_9 e;exact SC.index e ⟨.int _,H,I.tok _,⟨_,rfl⟩,Dc o g (.int _)⟩
  ·exact o.elim
 ·have e:ai_3 d ds=.no:=by
   unfold ai_3
   split
   ·rename_i x y;exact absurd ⟨rfl,rfl⟩ (n x y)
   ·rfl
  rw [e] at o;exact o.elim
end
section
variable{prog:Program}{w:World}{A:Around}{E:Value->Shared->Prop}{s:Shared}
theorem ae_7{env:Env}{elts:List Expr}{x1}{t:Addr}{items:Array Value}{Q:Unit->Shared->Prop}(hh:A.handled=none)(ht:s.heap.IsList t items)
  (hn:(assignEach elts env).length=items.size) (bz:(assignEach elts env).findIdx? (·.1)=none)
  (h:∀h',Heap.ExtBut s.heap.objs.size s.heap h'->wpAny (model prog w) A (assignInOrder ((assignEach elts env).map (·.2)) items.toList) Q E {s with heap:=h'}):
  wpAny (model prog w) A (assign (.Tuple elts x1 pos) env (.ref t)) Q E s:=by
 rw [assign_Tuple,unpack,hn,bz];exact wpAny_bind (wpAny_standAt (wpAny_bind (wpAny_holding (kun_itemsOf hh ht h))))
end
section
variable{X:Cx}{EX:Ay}{pos:Pos}
def gSeq(K:Frag)(n:Nat)(t:TGs):TG:=λv σ H Q=>∃a xs,v=.ref a/\(SqT K H a xs\/SqL K H a xs)/\xs.length=n/\t xs σ H Q
theorem bt_4{es:List Expr}{k:Nat}{t:TGs}{n:Nat}(hc:X.calm=true)(h:PGs X es t)
  (hn:(assignEach es X.env).length=n:=by rfl) (hst:(assignEach es X.env).findIdx? (·.1)=none:=by rfl):PG X (.Tuple es k pos) (gSeq X.K n t):=by
 intro zd s σ H v u Q I r hw;obtain⟨a,xs,e1,hq,hl,hw⟩:=hw;rcases hq with hq|hq
 ·exact bq_5 hc h hn hst zd s σ H v u Q I r ⟨a,xs,e1,hq,hl,hw⟩
 ·subst e1;cases r;obtain⟨its,rv,ht,hz⟩:=I.list hq;refine ae_7 (I.ok.hd hc) ht.isList (by simp [hn,<-hl,rv.length]) hst λh' hx=> ?_;have I1:Inv X zd σ H {s with heap:=h'}:=I.kept (t':=s.toks) λb o e=>hx b o (Nat.ne_of_lt (Heap.lt_size e)) e;exact h zd _ σ H xs _ Q I1 (by simpa using rv) hw
theorem HasS.skip{G:Hp}{σ:Sg}{δ:DE}{i:Nat}(h:HasS K G σ δ)(e:δ[i]? =some none):HasS K G (σ.set i (some v)) δ:=by
 refine⟨by rw [List.length_set];exact h.len,λj d' e'=> ?_⟩;obtain⟨v',e1,r'⟩:=h.get j d' e';refine⟨v', ?_,r'⟩;rw [List.getElem?_set_ne]
 ·exact e1
 ·rintro rfl
  rw [e] at e';cases e'
def gC2(i j:Nat):Eu:=λd δ=>match d with
 | .tup [a,b]=>(gC i a δ).bind λ δ1=>gC j b δ1
 | .lst [a,b]=>(gC i a δ).bind λ δ1=>gC j b δ1
 |_=> .no
def gC3(i j l:Nat):Eu:=λd δ=>match d with
 | .tup [a,b,c]=>(gC i a δ).bind λ δ1=>(gC j b δ1).bind λ δ2=>gC l c δ2
 | .lst [a,b,c]=>(gC i a δ).bind λ δ1=>(gC j b δ1).bind λ δ2=>gC l c δ2
 |_=> .no
theorem x_7(i:Nat)(d:D)(δ:DE):(δ[i]? =some none/\gC i d δ=.ok (δ.set i (some d)))\/gC i d δ=.no:=by
 unfold gC;cases e:δ[i]? with
 |none=>exact .inr rfl
 |some o=>
  cases o with
  |some _=>exact .inr rfl
  |none=>exact .inl ⟨rfl,rfl⟩
theorem ae_8{δ:DE}{i j:Nat}{d:D}(h:(δ.set i (some d))[j]? =some none):δ[j]? =some none:=by
 rcases Fd h with⟨_,q⟩|⟨_,q⟩
 ·cases q
 ·exact q
theorem by_5{G:Hp}{σ:Sg}{δ:DE}{i j l:Nat}{v1 v2 v3:V}{a b c:D}{Q:Sg->Hp->Prop}(s:HasS K G σ δ)(r1:Has K G v1 a)(r2:Has K G v2 b)(r3:Has K G v3 c)
  (q:match(gC i a δ).bind λ δ1=>(gC j b δ1).bind λ δ2=>gC l c δ2 with| .ok δ'=>∀σ',HasS K G σ' δ'->HasS K G σ' δ->Q σ' H| .ex x=>(EX σ).p x G H| .no=>False):Q (((σ.set i (some v1)).set j (some v2)).set l (some v3)) H:=by
 rcases x_7 i a δ with⟨n1,e1⟩|e1
 ·rw [e1] at q;simp only [R.bind_ok] at q;rcases x_7 j b (δ.set i (some a)) with⟨n2,e2⟩|e2
  ·rw [e2] at q;simp only [R.bind_ok] at q;rcases x_7 l c ((δ.set i (some a)).set j (some b)) with⟨n3,e3⟩|e3
   ·rw [e3] at q;exact q _ (((s.put r1 i).put r2 j).put r3 l) (((s.skip n1).skip (ae_8 n2)).skip (ae_8 (ae_8 n3)))
   ·rw [e3] at q;exact q.elim
  ·rw [e2] at q;exact q.elim
 ·rw [e1] at q;exact q.elim
theorem df_3{G:Hp}{σ:Sg}{δ:DE}{i j:Nat}{v1 v2:V}{a b:D}{Q:Sg->Hp->Prop}(s:HasS K G σ δ)(r1:Has K G v1 a)(r2:Has K G v2 b)
  (q:match(gC i a δ).bind λ δ1=>gC j b δ1 with| .ok δ'=>∀σ',HasS K G σ' δ'->HasS K G σ' δ->Q σ' H| .ex x=>(EX σ).p x G H| .no=>False):Q ((σ.set i (some v1)).set j (some v2)) H:=by
 rcases x_7 i a δ with⟨n1,e1⟩|e1
 ·rw [e1] at q;simp only [R.bind_ok] at q;rcases x_7 j b (δ.set i (some a)) with⟨n2,e2⟩|e2
  ·rw [e2] at q;exact q _ ((s.put r1 i).put r2 j) ((s.skip n1).skip (ae_8 n2))
  ·rw [e2] at q;exact q.elim
 ·rw [e1] at q;exact q.elim
theorem cn_6{i j l k:Nat}{x y z:Str}{p1 p2 p3:Pos}(hc:X.calm=true)(hN:X.N.Nodup)(hi:X.N[i]? =some x:=by rfl)(hj:X.N[j]? =some y:=by rfl)(hl:X.N[l]? =some z:=by rfl)(hx:Fb X.env.scope x:=by first|exact Or.inl rfl|exact Or.inr rfl)(hy:Fb X.env.scope y:=by first|exact Or.inl rfl|exact Or.inr rfl)(hz:Fb X.env.scope z:=by first|exact Or.inl rfl|exact Or.inr rfl)
  (hf:X.fn x=true\/X.env.scope.names.lookup x=some .local:=by first|exact .inl rfl|exact .inr rfl|assumption) (hf2:X.fn y=true\/X.env.scope.names.lookup y=some .local:=by first|exact .inl rfl|exact .inr rfl|assumption) (hf3:X.fn z=true\/X.env.scope.names.lookup z=some .local:=by first|exact .inl rfl|exact .inr rfl|assumption)
  (hn:(assignEach [.Name x p1,.Name y p2,.Name z p3] X.env).length=3:=by rfl) (hst:(assignEach [.Name x p1,.Name y p2,.Name z p3] X.env).findIdx? (·.1)=none:=by rfl)
  (hs:(assignEach [.Name x p1,.Name y p2,.Name z p3] X.env).map (·.2)=assign (.Name x p1) X.env::(assignEach [.Name y p2,.Name z p3] X.env).map (·.2):=by rfl) (hs2:(assignEach [.Name y p2,.Name z p3] X.env).map (·.2)=assign (.Name y p2) X.env::(assignEach [.Name z p3] X.env).map (·.2):=by rfl) (hs3:(assignEach [.Name z p3] X.env).map (·.2)=assign (.Name z p3) X.env::(assignEach [] X.env).map (·.2):=by rfl):
  GC X EX (.Tuple [.Name x p1,.Name y p2,.Name z p3] k pos) (gC3 i j l):=
 PG.imp (bt_4 hc (l_1 (l_6 hN hi hx hf) (l_1 (l_6 hN hj hy hf2) (l_1 (l_6 hN hl hz hf3) ad_7 hs3) hs2) hs) hn hst) λv σ H Q ⟨G,δ,d,g,s,r,q⟩=>by
  cases r with
  |tup h r=>
   cases r with
   |nil=>exact False.elim q
   |cons r1 r=>
    cases r with
    |nil=>exact False.elim q
    |cons r2 r=>
     cases r with
     |nil=>exact False.elim q
     |cons r3 r=>
      cases r with
      |nil=>exact⟨_,_,rfl,.inl (Same.tupS g h),rfl,_,_,rfl,_,_,rfl,_,_,rfl,rfl,by_5 s r1 r2 r3 q⟩
      |cons _ _=>exact False.elim q
  |lst h r=>
   cases r with
   |nil=>exact False.elim q
   |cons r1 r=>
    cases r with
    |nil=>exact False.elim q
    |cons r2 r=>
     cases r with
     |nil=>exact False.elim q
     |cons r3 r=>
      cases r with
      |nil=>exact⟨_,_,rfl,.inr (g.seq h),rfl,_,_,rfl,_,_,rfl,_,_,rfl,rfl,by_5 s r1 r2 r3 q⟩
      |cons _ _=>exact False.elim q
  |_=>exact False.elim q
theorem dl_1{i j k:Nat}{x y:Str}{p1 p2:Pos}(hc:X.calm=true)(hN:X.N.Nodup)(hi:X.N[i]? =some x:=by rfl)(hj:X.N[j]? =some y:=by rfl)(hx:Fb X.env.scope x:=by first|exact Or.inl rfl|exact Or.inr rfl)(hy:Fb X.env.scope y:=by first|exact Or.inl rfl|exact Or.inr rfl)
  (hf:X.fn x=true\/X.env.scope.names.lookup x=some .local:=by first|exact .inl rfl|exact .inr rfl|assumption) (hf2:X.fn y=true\/X.env.scope.names.lookup y=some .local:=by first|exact .inl rfl|exact .inr rfl|assumption)
  (hn:(assignEach [.Name x p1,.Name y p2] X.env).length=2:=by rfl) (hst:(assignEach [.Name x p1,.Name y p2] X.env).findIdx? (·.1)=none:=by rfl)
  (hs:(assignEach [.Name x p1,.Name y p2] X.env).map (·.2)=assign (.Name x p1) X.env::(assignEach [.Name y p2] X.env).map (·.2):=by rfl) (hs2:(assignEach [.Name y p2] X.env).map (·.2)=assign (.Name y p2) X.env::(assignEach [] X.env).map (·.2):=by rfl):
  GC X EX (.Tuple [.Name x p1,.Name y p2] k pos) (gC2 i j):=
 PG.imp (bt_4 hc (l_1 (l_6 hN hi hx hf) (l_1 (l_6 hN hj hy hf2) ad_7 hs2) hs) hn hst) λv σ H Q ⟨G,δ,d,g,s,r,q⟩=>by
  cases r with
  |tup h r=>
   cases r with
   |nil=>exact False.elim q
   |cons r1 r=>
    cases r with
    |nil=>exact False.elim q
    |cons r2 r=>
     cases r with
     |nil=>exact⟨_,_,rfl,.inl (Same.tupS g h),rfl,_,_,rfl,_,_,rfl,rfl,df_3 s r1 r2 q⟩
     |cons _ _=>exact False.elim q
  |lst h r=>
   cases r with
   |nil=>exact False.elim q
   |cons r1 r=>
    cases r with
    |nil=>exact False.elim q
    |cons r2 r=>
     cases r with
     |nil=>exact⟨_,_,rfl,.inr (g.seq h),rfl,_,_,rfl,_,_,rfl,rfl,df_3 s r1 r2 q⟩
     |cons _ _=>exact False.elim q
  |_=>exact False.elim q
end
section
variable{X:Cx}{EX:Ay}
def nonB:D->Bool
 | .non=>true
 |_=>false
def isND(neg:Bool):D->D->R W
 |d,.non=> .ok (.sh (.bl (if neg then !nonB d else nonB d)))
 |_,_=> .no
theorem dl_2{G:Hp}{d:D}(r:Has K G v d):decide (v=.non)=nonB d:=by
 cases r <;> rfl
theorem cn_7:Ea X (compareOp .IsNot) (isND true):=by
 intro zd s σ H x y v u Q I rx ry q;obtain⟨EX,G,a,b,g,ra,rb,o⟩:=q;cases rb with
 |non=>exact cv_6 zd s σ H _ _ _ _ Q I rx ry ⟨rfl,by rw [dl_2 ra];exact Dc o g (.bl _)⟩
 |_=>exact False.elim o
end
section
variable{X:Cx}{EX:Ay}{tg a b:Expr}{f g:FE}{fa:FA}{p pos:Pos}
theorem HasL.rep{G:Hp}{vs:List V}{ds:List D}(r:HasL K G vs ds):∀n:Nat,HasL K G (List.replicate n vs).flatten (List.replicate n ds).flatten
 |0=> .nil
 |n + 1=>by rw [List.replicate_succ,List.replicate_succ,List.flatten_cons,List.flatten_cons];exact r.append (HasL.rep r n)
def repD(ds:List D):D->R W
 | .int k=>if k.natAbs < 4611686018427387904/\ds.length * k.toNat<=16777216 then .ok (.ow (.lst (List.replicate k.toNat ds).flatten)) else .no
 |_=> .no
def eRep(fa:FA)(f:FE):FE:=λ δ=>(fa δ).bind λds=>if ds.length<=16777216 then(f δ).bind λw=>repD ds w.d else .no
theorem dl_3{es:List Expr}{dg:Pos}(ha:AD X EX es fa)(hb:ED X EX b f):ED X EX (.BinOp (.List es dg) .Mult b pos) (eRep fa f):=
 PE.imp (de_8 dj_5 (bd_0 ha) hb) λ σ H Q ⟨G,δ,g0,s0,o⟩=>tDa.seq g0 s0 o λds vs G' H' _ st r o'=>by
  split at o'
  ·rename_i hz;refine⟨by rw [r.length,sizeLine_eq];exact hz,λq hq=> ?_⟩;have so:=Step.own st.gh hq (.lst vs);refine tD.seq so.gh (s0.mono st.gg) (Out.mono so o') λw v G2 H2 _ st2 r2 o2=> ?_;revert r2 o2;cases w.d with
   |int k=>
    intro r2 o2;cases r2;simp only [repD] at o2
    split at o2
    ·rename_i hk;exact⟨q,k,vs,rfl,rfl,st2.hh _ _ Ba,by have:=hk.1;omega,by have:=hk.1;omega,by rw [r.length,sizeLine_eq];exact hk.2,v_1 o2 st2.gh ((r.mono st2.gg).rep k.toNat)⟩
    ·exact o2.elim
   |_=>intro _ o2;exact False.elim o2
  ·exact o'.elim
def az_8:List D->Option (List Int)
 | []=>some []
 | .int i::ds=>(az_8 ds).map (i:: ·)
 |_=>none
def sumD:List D->R W
 | [.lst ds]=>match az_8 ds with
  |some is=> .ok (.sh (.int is.sum))
  |none=> .no
 |_=> .no
theorem by_6{G:Hp}:∀{vs:List V} {ds:List D} {us:List Value} {is:List Int},HasL K G vs ds->Vals vs us->az_8 ds=some is->us.length=is.length/\∀(j:Nat) (v:Value),us[j]? =some v->∃t,v=.int (is.getD j 0) t
 |_,_,_,_,.nil,r,e=>by cases r;cases e;exact⟨rfl,λj v h=>by simp at h⟩
 |_,_,_,_,.cons h t,r,e=>by
  cases r with
  |cons r1 r2=>
   cases h with
   |int x=>
    obtain⟨tk,rfl⟩:=r1;simp only [az_8] at e;obtain⟨zs,q,rfl⟩:=Option.map_eq_some_iff.mp e;obtain⟨h1,h2⟩:=by_6 t r2 q;refine⟨by simp [h1],λj v hj=> ?_⟩;cases j with
    |zero=>simp at hj;subst hj;exact⟨tk,rfl⟩
    |succ j=>
     obtain⟨t',e'⟩:=h2 j v (by simpa using hj);exact⟨t',by rw [e'];simp⟩
   |_=>cases e
theorem ak_5(is:List Int):∀j,preSum (λi=>is.getD i 0) j=(is.take j).sum
 |0=>by simp [preSum]
 |j + 1=>by rw [preSum,ak_5 is j,PySem.sum_take_succ]
theorem cg_0(hc:X.calm=true):x_0 X (.builtin "sum") sumD:=by
 intro zd s σ H vs us Q I rv q;obtain⟨EX,G,ds,g,r,o⟩:=q;cases r with
 |nil=>exact False.elim o
 |cons h t=>
  cases t with
  |cons _ _=>cases h <;> exact False.elim o
  |nil=>
   cases h with
   |lst h r=>
    rename_i l _ _;simp only [sumD] at o
    split at o
    ·rename_i is e;obtain⟨u,rfl,ru⟩:=rv.one;cases ru;obtain⟨its,rv',pl,hz⟩:=I.list (g.seq h);obtain⟨el,ev⟩:=by_6 r rv' e;have nl:l≠s.heap.objs.size:=λz=>by
      obtain⟨o',ho,_⟩:=pl.isList;exact absurd (Heap.lt_size ho) (by rw [<-z];exact Nat.lt_irrefl _)
     have ll:l < s.heap.objs.size:=by
      obtain⟨o',ho,_⟩:=pl.isList;exact Heap.lt_size ho
     refine call_sum_walkAnyS (wpAny_pyIter_list pl.isList ⟨s.heap.objs.size,_,_,_,_,_,_,λi=>is.getD i 0,rfl,(Walks.list (A:=X.A.in1) (I.ok.hd hc) s.heap.objs.size l nl its.toArray).toS,⟨⟨_,Heap.get?_push_size _ rfl,rfl,rfl⟩, ?_⟩,λb hb=> ?_,λi v hP=>ev i v (by simpa using hP),λs' t' mv=> ?_⟩)
     ·exact pl.isList.at λo z=>Heap.get?_push_of_some _ z
     ·rw [Heap.size_push];have hb':b=s.heap.objs.size\/b=l:=by simpa using hb
      rcases hb' with rfl|rfl
      ·exact Nat.lt_succ_self _
      ·exact Nat.lt_succ_of_lt ll
     ·have en:its.toArray.size=is.length:=by simp [el]
      rw [en,ak_5,List.take_length];obtain⟨m1,m2,m3,m4,m5⟩:=mv;have e':s'={s with heap:=s'.heap,toks:=s'.toks}:=by
       cases s';simp only at m2 m3 m4;subst m2 m3 m4;rfl
      rw [e'];refine⟨.int _,H,I.kept (t':=s'.toks) λb o' z=>m1 b o' (by
       have hb:b≠s.heap.objs.size:=Nat.ne_of_lt (Heap.lt_size z);simpa using hb) (Heap.get?_push_of_some _ z),⟨t',rfl⟩,Dc o g (.int _)⟩
    ·exact o.elim
   |_=>exact False.elim o
def gP(i j:Nat):FG:=λd Δ=>match d with
 | .tup [a,b]=> .ok ((Δ.set i (.sh a)).set j (.sh b))
 | .lst [a,b]=> .ok ((Δ.set i (.sh a)).set j (.sh b))
 |_=> .no
theorem cy_9{i j k:Nat}{x y:Str}{p1 p2:Pos}(hc:X.calm=true)(hN:X.N.Nodup)(hi:X.N[i]? =some x:=by rfl)(hj:X.N[j]? =some y:=by rfl)(hx:Fb X.env.scope x:=by first|exact Or.inl rfl|exact Or.inr rfl)(hy:Fb X.env.scope y:=by first|exact Or.inl rfl|exact Or.inr rfl)
  (hf:X.fn x=true\/X.env.scope.names.lookup x=some .local:=by first|exact .inl rfl|exact .inr rfl|assumption) (hf2:X.fn y=true\/X.env.scope.names.lookup y=some .local:=by first|exact .inl rfl|exact .inr rfl|assumption)
  (hn:(assignEach [.Name x p1,.Name y p2] X.env).length=2:=by rfl) (hst:(assignEach [.Name x p1,.Name y p2] X.env).findIdx? (·.1)=none:=by rfl)
  (hs:(assignEach [.Name x p1,.Name y p2] X.env).map (·.2)=assign (.Name x p1) X.env::(assignEach [.Name y p2] X.env).map (·.2):=by rfl) (hs2:(assignEach [.Name y p2] X.env).map (·.2)=assign (.Name y p2) X.env::(assignEach [] X.env).map (·.2):=by rfl):
  GD X EX (.Tuple [.Name x p1,.Name y p2] k pos) (gP i j):=
 PG.imp (bt_4 hc (l_1 (l_6 hN hi hx hf) (l_1 (l_6 hN hj hy hf2) ad_7 hs2) hs) hn hst) λv σ H Q ⟨H0,G0,G,Δ,O,d,E,r,q⟩=>by
  cases r with
  |tup h r=>
   cases r with
   |nil=>exact False.elim q
   |cons r1 r=>
    cases r with
    |nil=>exact False.elim q
    |cons r2 r=>
     cases r with
     |nil=>exact⟨_,_,rfl,.inl (Same.tupS E.st.gh h),rfl,_,_,rfl,_,_,rfl,rfl,q _ G H O ((E.put r1).put r2) (Same.refl _)⟩
     |cons _ _=>exact False.elim q
  |lst h r=>
   cases r with
   |nil=>exact False.elim q
   |cons r1 r=>
    cases r with
    |nil=>exact False.elim q
    |cons r2 r=>
     cases r with
     |nil=>exact⟨_,_,rfl,.inr (E.st.gh.seq h),rfl,_,_,rfl,_,_,rfl,rfl,q _ G H O ((E.put r1).put r2) (Same.refl _)⟩
     |cons _ _=>exact False.elim q
  |_=>exact False.elim q
def sUnp(fg:FG)(js:List Nat)(f:FE):FS:=λ Δ=>match f (As (gsome js Δ)) with
 | .ok w=>(match fg w.d (gsome js Δ) with
  | .ok Δ'=> .nx Δ'
  |_=> .no)
 | .ex x=> .ex x (gsome js Δ)
 | .no=> .no
theorem cn_9{fg:FG}(js:List Nat){e tg:Expr}(he:ED X EX e f)(hg:GD X EX tg fg)(hs:swapsWithSole [tg] e pos.line X.env=pure false:=by rfl)(hw:swappedStores [tg] e X.env=pure none:=by rfl)
  (h1:(assignEach [tg] X.env).map (·.2)= [assign tg X.env]:=by rfl):SD X EX (.Assign [tg] e pos) (sUnp fg js f):=
 PS.imp (cj_3 he hg hs hw h1) λD σ H ⟨H0,G0,G,Δ,O,E,q⟩=>by
  obtain⟨G1,O1,sg,E1⟩:=E.gsome js;unfold sUnp at q;refine⟨G1,As (gsome js Δ),E1.st.gh,E1.gsh, ?_⟩;cases e1:f (As (gsome js Δ)) with
  |ok w=>
   simp only [e1] at q;refine WP.intro λv G' H' st r=>⟨H0,G0,G',gsome js Δ,O1,w.d,E1.grow st,r, ?_⟩;cases e2:fg w.d (gsome js Δ) with
   |ok Δ'=>simp only [e2] at q;exact λ σ' G2 H2 O2 E2 s2=>q σ' G2 H2 O2 E2 (sg.trans (st.gg.trans s2))
   |ex x=>simp only [e2] at q;exact q.elim
   |no=>simp only [e2] at q;exact q.elim
  |ex x=>simp only [e1] at q;exact q σ G1 H O1 E1 sg
  |no=>simp only [e1] at q;exact q.elim
end
@[elab_as_elim] theorem ar_4{P:List Value->Prop}{us:List Value}{n:Nat}(h:us.length=n)(k:∀y:Nat->Value,P ((List.range n).map y)):P us:=by
 have e:us=(List.range n).map λi=>us.getD i .none:=by
  apply List.ext_getElem?;intro i;rw [List.getElem?_map]
  by_cases hi:i < n
  ·rw [List.getElem?_range hi,Option.map_some,List.getD_eq_getElem?_getD,List.getElem?_eq_getElem (by omega)];rfl
  ·rw [List.getElem?_eq_none (by omega),List.getElem?_eq_none (by rw [List.length_range];omega)];rfl
 rw [e];exact k _
section
variable{K:Frag}{x qual:Str}{st:Stmt}{f:Addr}{fd:FuncData}{ps:List Str}
theorem Fun.binds1(F:Fun K x qual st f fd)(hl:ps.length=1:=by rfl)(h:∀(kV doc pm:Value) (an:Option Addr) (zq ct a:Value),bindArgs (fnOf x qual (i_8 st) (Fk st) (Ci st) .none kV doc pm an zq ct) ⟨[a],[]⟩=pure (ps.zip [a]):=by intros;rfl):Binds K fd ps []:=
 F.binds λkV doc pm an zq ct us hu=>ar_4 (hu.trans hl) λy=>h kV doc pm an zq ct (y 0)
theorem Fun.binds2(F:Fun K x qual st f fd)(hl:ps.length=2:=by rfl)(h:∀(kV doc pm:Value) (an:Option Addr) (zq ct a b:Value),bindArgs (fnOf x qual (i_8 st) (Fk st) (Ci st) .none kV doc pm an zq ct) ⟨[a,b],[]⟩=pure (ps.zip [a,b]):=by intros;rfl):Binds K fd ps []:=
 F.binds λkV doc pm an zq ct us hu=>ar_4 (hu.trans hl) λy=>h kV doc pm an zq ct (y 0) (y 1)
theorem Fun.binds3(F:Fun K x qual st f fd)(hl:ps.length=3:=by rfl)(h:∀(kV doc pm:Value) (an:Option Addr) (zq ct a b c:Value),bindArgs (fnOf x qual (i_8 st) (Fk st) (Ci st) .none kV doc pm an zq ct) ⟨[a,b,c],[]⟩=pure (ps.zip [a,b,c]):=by intros;rfl):Binds K fd ps []:=
 F.binds λkV doc pm an zq ct us hu=>ar_4 (hu.trans hl) λy=>h kV doc pm an zq ct (y 0) (y 1) (y 2)
theorem Fun.binds4(F:Fun K x qual st f fd)(hl:ps.length=4:=by rfl)(h:∀(kV doc pm:Value) (an:Option Addr) (zq ct a b c d:Value),bindArgs (fnOf x qual (i_8 st) (Fk st) (Ci st) .none kV doc pm an zq ct) ⟨[a,b,c,d],[]⟩=pure (ps.zip [a,b,c,d]):=by intros;rfl):Binds K fd ps []:=
 F.binds λkV doc pm an zq ct us hu=>ar_4 (hu.trans hl) λy=>h kV doc pm an zq ct (y 0) (y 1) (y 2) (y 3)
theorem Fun.binds5(F:Fun K x qual st f fd)(hl:ps.length=5:=by rfl)(h:∀(kV doc pm:Value) (an:Option Addr) (zq ct a b c d e:Value),bindArgs (fnOf x qual (i_8 st) (Fk st) (Ci st) .none kV doc pm an zq ct) ⟨[a,b,c,d,e],[]⟩=pure (ps.zip [a,b,c,d,e]):=by intros;rfl):Binds K fd ps []:=
 F.binds λkV doc pm an zq ct us hu=>ar_4 (hu.trans hl) λy=>h kV doc pm an zq ct (y 0) (y 1) (y 2) (y 3) (y 4)
end
structure ZApart(z TI TO i1 i2:Addr):Prop where
 TIz:TI≠z
 TOz:TO≠z
 i1z:i1≠z
 i2z:i2≠z
 TITO:TI≠TO
 TIi1:TI≠i1
 TIi2:TI≠i2
 TOi1:TO≠i1
 TOi2:TO≠i2
 i12:i1≠i2
section
variable{X:Cx}{EX:Ay}{a b:Expr}{fa:FA}{elts:List Expr}{x1:Nat}{tp p pos:Pos}
end
def met(is:List Int):List Int:=PyProof.Rows.firstMet (λi=>is.getD i 0) is.length
section
variable{X:Cx}{EX:Ay}{a:Expr}{f:FE}{p p' pos pos':Pos}
end
def Ee:D->Option Af
 | .int i=>some (.inl i)
 | .str x=>some (.inr x)
 |_=>none
theorem t_4{G:Hp}{d:D}{k:Af}(r:Has K G v d)(e:Ee d=some k):v=kV k:=by
 cases r <;> first|(cases e;rfl)|cases e
section
variable{α:Type}
def Bh(kvs:List (Af×α))(k:Af):Option α:=(kvs.find? λkv=>decide (kv.1=k)).map (·.2)
def Cr(kvs:List (Af×α))(k:Af)(v:α):List (Af×α):=if(kvs.any λkv=>decide (kv.1=k))=true then kvs.map (λkv=>if kv.1=k then(kv.1,v) else kv) else kvs ++ [(k,v)]
def Ei(kvs:List (Af×α))(k:Af):List (Af×α):=kvs.filter λkv=>decide (kv.1≠k)
def Cz(kvs:List (Af×α))(k:Af):Bool:=(Bh kvs k).isSome
end
theorem by_7(kvs:List (Af×V))(k:Af)(v:V):El kvs k v=Cr kvs k v:=rfl
theorem v_5{G:Hp}:∀{kvs:List (Af×V)} {kds:List (Af×D)} (k:Af),kvs.map (·.1)=kds.map (·.1)->HasL K G (kvs.map (·.2)) (kds.map (·.2))->(Ch kvs k).isSome=Cz kds k/\∀d,Bh kds k=some d->∃v,Ch kvs k=some v/\Has K G v d
 | [],[],k,_,_=>⟨rfl,λd e=>by cases e⟩
 | [],_::_,k,e,_=>by simp at e
 |_::_,[],k,e,_=>by simp at e
 |(x,v)::kvs,(y,d)::kds,k,e,r=>by
  simp only [List.map_cons,List.cons.injEq] at e;obtain⟨e1,e2⟩:=e;subst e1;cases r with
  |cons h r=>
   obtain⟨i1,i2⟩:=v_5 (kvs:=kvs) (kds:=kds) k e2 r
   by_cases q:x=k
   ·have a1:Ch ((x,v)::kvs) k=some v:=h_9 q;have a2:Bh ((x,d)::kds) k=some d:=by unfold Bh;rw [List.find?_cons_of_pos (by simpa using q)];rfl
    refine⟨by unfold Cz;rw [a1,a2];rfl,λd' e'=> ?_⟩;rw [a2] at e';cases e';exact⟨v,a1,h⟩
   ·have a1:Ch ((x,v)::kvs) k=Ch kvs k:=h_1 q;have a2:Bh ((x,d)::kds) k=Bh kds k:=by unfold Bh;rw [List.find?_cons_of_neg (by simpa using q)]
    refine⟨by unfold Cz at i1⊢;rw [a1,a2];exact i1,λd' e'=> ?_⟩;rw [a2] at e';rw [a1];exact i2 d' e'
theorem bk_4{α β:Type}:∀{kvs:List (Af×α)} {kds:List (Af×β)} (k:Af),kvs.map (·.1)=kds.map (·.1)->(kvs.any λkv=>decide (kv.1=k))=kds.any λkv=>decide (kv.1=k)
 | [],[],_,_=>rfl
 | [],_::_,k,e=>by simp at e
 |_::_,[],k,e=>by simp at e
 |(x,v)::kvs,(y,d)::kds,k,e=>by
  simp only [List.map_cons,List.cons.injEq] at e;obtain⟨e1,e2⟩:=e;subst e1;rw [List.any_cons,List.any_cons,bk_4 k e2]
theorem by_8{G:Hp}{kvs:List (Af×V)}{kds:List (Af×D)}(k:Af){d:D}(e:kvs.map (·.1)=kds.map (·.1))(r:HasL K G (kvs.map (·.2)) (kds.map (·.2)))(h:Has K G v d):
  (El kvs k v).map (·.1)=(Cr kds k d).map (·.1)/\HasL K G ((El kvs k v).map (·.2)) ((Cr kds k d).map (·.2)):=by
 rw [by_7];unfold Cr;rw [bk_4 k e]
 split
 ·have all:∀{kvs:List (Af×V)} {kds:List (Af×D)},kvs.map (·.1)=kds.map (·.1)->HasL K G (kvs.map (·.2)) (kds.map (·.2))->
    (kvs.map (λkv=>if kv.1=k then(kv.1,v) else kv)).map (·.1)=(kds.map (λkv=>if kv.1=k then(kv.1,d) else kv)).map (·.1)/\HasL K G ((kvs.map (λkv=>if kv.1=k then(kv.1,v) else kv)).map (·.2)) ((kds.map (λkv=>if kv.1=k then(kv.1,d) else kv)).map (·.2)):=by
   intro kvs
   induction kvs with
   |nil=>
    intro kds e r;cases kds with
    |nil=>exact⟨rfl,.nil⟩
    |cons _ _=>simp at e
   |cons p kvs ih=>
    intro kds e r;cases kds with
    |nil=>simp at e
    |cons q kds=>
     obtain⟨x,u⟩:=p;obtain⟨y,w⟩:=q;simp only [List.map_cons,List.cons.injEq] at e;obtain⟨e1,e2⟩:=e;subst e1;cases r with
     |cons h1 r=>
      obtain⟨i1,i2⟩:=ih e2 r;simp only [List.map_cons]
      by_cases z:x=k
      ·simp only [z,if_true];exact⟨by rw [i1],.cons h i2⟩
      ·simp only [z,if_false];exact⟨by rw [i1],.cons h1 i2⟩
  exact all e r
 ·refine⟨by rw [List.map_append,List.map_append,e];rfl, ?_⟩;rw [List.map_append,List.map_append];exact r.append (.cons h .nil)
section
variable{X:Cx}{EX:Ay}{pos:Pos}
def ae_9:FE:=λ_=> .ok (.ow (.dic []))
theorem ao_3:ED X EX (.Dict [] [] pos) ae_9:=PE.imp cl_7 λ σ H Q ⟨G,δ,g,s,o⟩=>λp hp=>
 o (.ref p) (λb=>b=p) G _ (Step.own g hp _) (λa e=>by subst e;exact⟨hp,g.free hp,by rw [Ba];simp⟩) (.dict Ba rfl rfl .nil)
def Eg(neg:Bool):D->D->R W
 |d,.dic kvs=>match Ee d with
  |some k=> .ok (.sh (.bl (if neg then !Cz kvs k else Cz kvs k)))
  |none=> .no
 |_,_=> .no
theorem DGet.rd{a:Addr}{kvs:List (Af×V)}{k:Af}(e:Rd H a (.dK kvs)):DGet H a (kV k) (Ch kvs k):=.inl ⟨kvs,k,e,rfl,rfl⟩
theorem bt_6(hu:X.A.units + 64 < cLine):Ea X (compareOp .In) (Eg false):=by
 intro zd s σ H x y v u Q I rx ry q;obtain⟨EX,G,a,b,g,ra,rb,o⟩:=q;cases rb with
 |dic h hk r=>
  simp only [Eg] at o
  split at o
  ·rename_i k ek;have ex:=t_4 ra ek;subst ex;cases ry;refine d_in (by omega) I (DGet.rd (k:=k) (Same.rdD g h)) rx λs' I'=>⟨.bl _,H,I',rfl, ?_⟩;rw [(v_5 k hk r).1];exact Dc o g (.bl _)
  ·exact o.elim
 |_=>exact False.elim o
theorem az_9(hu:X.A.units + 64 < cLine):Ea X (compareOp .NotIn) (Eg true):=by
 intro zd s σ H x y v u Q I rx ry q;obtain⟨EX,G,a,b,g,ra,rb,o⟩:=q;cases rb with
 |dic h hk r=>
  simp only [Eg] at o
  split at o
  ·rename_i k ek;have ex:=t_4 ra ek;subst ex;cases ry;refine cw_6 (by omega) I (DGet.rd (k:=k) (Same.rdD g h)) rx λs' I'=>⟨.bl _,H,I',rfl, ?_⟩;rw [(v_5 k hk r).1];exact Dc o g (.bl _)
  ·exact o.elim
 |_=>exact False.elim o
def getK:D->D->R W
 | .dic kvs,d=>match Ee d with
  |some k=>(match Bh kvs k with
   |some x=> .ok (.sh x)
   |none=> .no)
  |none=> .no
 |_,_=> .no
theorem cz_1{o i:Expr}{f g:FE}(hu:X.A.units + 64 < cLine)(ho:ED X EX o f)(hi:ED X EX i g)(hs:NoSl i:=by intro _ _;rfl):ED X EX (.Subscript o i pos) (Ae getK f g):=
 PE.imp (cw_8 (by omega) ho hi hs) λ σ H Q ⟨G,δ,g0,s0,o⟩=>tD.seq g0 s0 o λw v G1 H1 _ st1 r1 o1=>tD.seq st1.gh (s0.mono st1.gg) o1 λw2 v2 G2 H2 _ st2 r2 o2=>by
  have r1:=r1.mono st2.gg;revert r1 o2;cases w.d with
  |dic kvs=>
   intro o2 r1;simp only [getK] at o2
   split at o2
   ·rename_i k ek
    split at o2
    ·rename_i x ex;cases r1 with
     |dic h hk r=>
      obtain⟨u,e1,e2⟩:=(v_5 k hk r).2 x ex;have e3:=t_4 r2 ek;subst e3;refine⟨_,u,rfl, ?_,Dc o2 st2.gh e2⟩;rw [<-e1];exact DGet.rd (Same.rdD st2.gh h)
    ·exact o2.elim
   ·exact o2.elim
  |_=>intro o2 _;exact False.elim o2
def De:List D->R W
 | [.dic kvs]=> .ok (.sh (.int kvs.length))
 |_=> .no
theorem u_3:x_0 X (.builtin "len") De:=by
 intro zd s σ H vs us Q I rv q;obtain⟨EX,G,ds,g,r,o⟩:=q;cases r with
 |nil=>exact False.elim o
 |cons h t=>
  cases t with
  |cons _ _=>cases h <;> exact False.elim o
  |nil=>
   cases h with
   |dic h hk r=>
    rename_i kvs kds;obtain⟨u,rfl,ru⟩:=rv.one;cases ru;refine dq_6 I (Same.rdD g h) λt s' I'=>⟨.int _,H,I',⟨t,rfl⟩, ?_⟩;have hl:kds.length=kvs.length:=by
     have:=congrArg List.length hk;rw [List.length_map,List.length_map] at this;exact this.symm
    rw [<-hl];exact Dc o g (.int _)
   |_=>exact False.elim o
def Fh(i:Nat)(js:List Nat)(fk fe:FE):FS:=λ Δ=>match(gsome js Δ)[i]? with
 |some (.ow (.dic kvs))=>(match fe (As (gsome js Δ)) with
  | .ok w=>(match fk (Bb (gsome js Δ)) with
   | .ok z=>(match Ee z.d with
    |some k=>if kvs.length < 16777216 then .nx ((gsome js Δ).set i (.ow (.dic (Cr kvs k w.d)))) else .no
    |none=> .no)
   |_=> .no)
  |_=> .no)
 |_=> .no
theorem by_9{i:Nat}(js:List Nat){x:Str}{e ie:Expr}{fe fk:FE}{p1 zh pos:Pos}(hu:X.A.units + 64 < cLine)(he:ED X EX e fe)(hi:ED X EX ie fk)(hN:X.N[i]? =some x:=by rfl)(hv:Fu X.env.scope x:=by first|exact Or.inl rfl|exact Or.inr (Or.inl rfl)|exact Or.inr (Or.inr rfl))(hd:(x ==("__debug__" :Str))=false:=by decide)
  (hcd:(x ==("__classdict__" :Str))=false:=by decide) (hs:swapsWith e (some (.Subscript (.Name x p1) ie zh)) pos.line X.env=pure false:=by rfl):
  SD X EX (.Assign [.Subscript (.Name x p1) ie zh] e pos) (Fh i js fk fe):=
 PS.imp (bx_9 (by omega) (Ft hN hv hd hcd) hi he hs) λD σ H ⟨H0,G0,G,Δ,O,E,q⟩=>by
  obtain⟨G1,O1,sg,E1⟩:=E.gsome js;unfold Fh at q;generalize gsome js Δ=Δ1 at q E1
  split at q
  ·rename_i kds e1;obtain⟨v0,s1,t⟩:=E1.ow i _ _ e1 rfl;obtain⟨a,kvs,rfl,m,hH,hk,rl⟩:=t.dict_of;refine⟨G1,As Δ1,E1.st.gh,E1.gsh, ?_⟩;cases e2:fe (As Δ1) with
   |ex x=>rw [e2] at q;exact q.elim
   |no=>rw [e2] at q;exact q.elim
   |ok w=>
    simp only [e2] at q;refine WP.intro λv G' H' st r=> ?_;have E2:=E1.grow st;refine⟨.ref a,s1,x_4 G' H' O1,Bb Δ1,E2.aH,E2.gall, ?_⟩;cases e3:fk (Bb Δ1) with
    |ex x=>simp only [e3] at q;exact q.elim
    |no=>simp only [e3] at q;exact q.elim
    |ok z=>
     simp only [e3] at q;refine WP.intro λv2 G2 H2 st2 r2=> ?_
     split at q
     ·rename_i k ek
      split at q
      ·rename_i hl;have e4:=t_4 r2 ek;subst e4;have hH2:H2 a=some (.dK kvs):=st2.hh _ _ (st.hh _ _ hH);have hle:kvs.length=kds.length:=by
        have:=congrArg List.length hk
        rwa [List.length_map,List.length_map] at this
       obtain⟨p1,p2⟩:=by_8 k hk (rl.mono st.gg) r;exact⟨a,_,rfl,DPut.k hH2 (by rw [hle,sizeLine_eq];exact hl),q σ G' _ _ ((E2.keep st2.hh).writeD s1 m p1 p2) (sg.trans st.gg)⟩
      ·exact q.elim
     ·exact q.elim
  ·exact q.elim
end
section
variable{K:Frag}{H0 H1:HB}{G0 G H:Hp}{σ:Sg}{Δ:SE}{O:OS}
end
section
variable{X:Cx}{EX:Ay}{pos:Pos}
end
section
variable{X:Cx}{EX:Ay}{pos:Pos}
end
section
variable{X:Cx}{EX:Ay}{a b:Expr}{fa:FA}{p pos:Pos}
end
section
variable{K:Frag}{G H:Hp}
theorem OwL.append:∀{vs us:List V} {ts rs:List Tn} {S1 S2 S:AS},OwL K G H vs ts S1->OwL K G H us rs S2->(∀b,S1 b->S2 b->False)->(∀b,S1 b->S b)->(∀b,S2 b->S b)->OwL K G H (vs ++ us) (ts ++ rs) S
 |_,_,_,_,_,_,_,.nil,r,_,_,i2=>r.mono (Same.refl _) (λ_ _ _ q=>q) i2
 |_,_,_,_,S1,S2,S,.cons (S1:=Sa) (S2:=Sb) h r dj s1 s2,q,d,i1,i2=>
  .cons (S2:=λb=>Sb b\/S2 b) h (OwL.append r q (λb z1 z2=>d b (s2 b z1) z2) (λb z=> .inl z) λb z=> .inr z) (λb z1 z2=>by
   rcases z2 with z2|z2
   ·exact dj b z1 z2
   ·exact d b (s1 b z1) z2) (λb z=>i1 b (s1 b z)) λb z=>by
   rcases z with z|z
   ·exact i1 b (s2 b z)
   ·exact i2 b z
end
section
variable{α:Type}
def Cu:List (Af×α)->Af->α->List (Af×α)
 | [],_,_=> []
 |(x,v)::r,k,v'=>if x=k then(x,v')::r else(x,v)::Cu r k v'
theorem ai_4:∀(l:List (Af×α)) (k:Af) (v:α),(Cu l k v).map (·.1)=l.map (·.1)
 | [],_,_=>rfl
 |(x,v0)::r,k,v=>by
  unfold Cu
  split
  ·rfl
  ·rw [List.map_cons,List.map_cons,ai_4 r k v]
end
def unS:List (Af×Tn)->Option (List (Af×D))
 | []=>some []
 |(k,.sh d)::r=>(unS r).map ((k,d):: ·)
 |_=>none
theorem ar_5:∀{zm:List (Af×Tn)} {kds:List (Af×D)},unS zm=some kds->zm=kds.map λp=>(p.1,Tn.sh p.2)
 | [],_,e=>by cases e;rfl
 |(k,t)::r,kds,e=>by
  cases t with
  |sh d=>
   simp only [unS] at e;cases q:unS r with
   |none=>rw [q] at e;cases e
   |some l=>
    rw [q] at e;cases e;rw [ar_5 q];rfl
  |_=>cases e
section
variable{K:Frag}{G H:Hp}
theorem OwL.focusK(k:Af):∀{kvs:List (Af×V)} {zm:List (Af×Tn)} {S:AS} {t:Tn},kvs.map (·.1)=zm.map (·.1)->OwL K G H (kvs.map (·.2)) (zm.map (·.2)) S->Bh zm k=some t->
  ∃v S1,Ch kvs k=some v/\Ow K G H v t S1/\(∀b,S1 b->S b)/\
   ∀{H':Hp} {t':Tn},(∀b o,S b->¬S1 b->H b=some o->H' b=some o)->Ow K G H' v t' S1->OwL K G H' (kvs.map (·.2)) ((Cu zm k t').map (·.2)) S
 | [],[],_,_,_,_,e=>by cases e
 | [],_::_,_,_,e,_,_=>by simp at e
 |_::_,[],_,_,e,_,_=>by simp at e
 |(x,v)::kvs,(y,t0)::zm,S,t,e,r,h=>by
  simp only [List.map_cons,List.cons.injEq] at e;obtain⟨e1,e2⟩:=e;subst e1;cases r with
  |cons hh r dj s1 s2=>
   rename_i S1 S2
   by_cases q:x=k
   ·have a2:Bh ((x,t0)::zm) k=some t0:=by unfold Bh;rw [List.find?_cons_of_pos (by simpa using q)];rfl
    rw [a2] at h;cases h;refine⟨v,S1,h_9 q,hh,s1,λ{H' t'} f h'=> ?_⟩;unfold Cu;rw [if_pos q];exact .cons h' (r.mono (Same.refl _) (λb o hb z=>f b o (s2 b hb) (λw=>dj b w hb) z) λ_ z=>z) dj s1 s2
   ·have a2:Bh ((x,t0)::zm) k=Bh zm k:=by unfold Bh;rw [List.find?_cons_of_neg (by simpa using q)]
    rw [a2] at h;obtain⟨v',S',e1,h',i',f'⟩:=OwL.focusK k e2 r h;refine⟨v',S',by rw [h_1 q];exact e1,h',λb z=>s2 b (i' b z),λ{H' t'} f h2=> ?_⟩;unfold Cu;rw [if_neg q];exact .cons (hh.mono (Same.refl _) (λb o hb z=>f b o (s1 b hb) (λw=>dj b hb (i' b w)) z) λ_ z=>z) (f' (λb o hb nb z=>f b o (s2 b hb) nb z) h2) dj s1 s2
end
def Sl.tree:Sl->Option (Tn×Bool)
 | .ow d=>some (Tn.of d,false)
 | .tr t=>some (t,false)
 | .lt t=>some (t,true)
 |_=>none
def Sl.mk(b:Bool)(t:Tn):Sl:=if b then .lt t else .tr t
theorem Sl.tree_own{s:Sl}{t:Tn}{b:Bool}(e:s.tree=some (t,b)):s.own=some t:=by
 cases s <;> first|(cases e;rfl)|cases e
theorem Sl.mk_own(b:Bool)(t:Tn):(Sl.mk b t).own=some t:=by cases b <;> rfl
theorem Sl.mk_lk(b:Bool)(t:Tn):∀d,Sl.mk b t≠ .lk d:=by intro d;cases b <;> (intro z;cases z)
theorem Ev.mk_lt{H0:HB}{G0 G H:Hp}{σ:Sg}{Δ:SE}{O:OS}(E:Ev K H0 G0 G H σ Δ O){i:Nat}{s:Sl}{t:Tn}{b:Bool}(e:Δ[i]? =some s)(q:s.tree=some (t,b))(t':Tn):∀d,Sl.mk b t'=.lt d->σ[i]? =some (some (.ref (H0.b i))):=by
 intro d z;cases b with
 |false=>cases z
 |true=>
  cases s with
  |lt t0=>exact E.lt i t0 e
  |_=>cases q
theorem Ev.writeIn{H0:HB}{G0 G H:Hp}{σ:Sg}{Δ:SE}{O:OS}(E:Ev K H0 G0 G H σ Δ O){i:Nat}{s:Sl}{t t':Tn}{b:Bool}{a:Addr}{o:HO}(e:Δ[i]? =some s)(q:s.tree=some (t,b))(s1:σ[i]? =some (some v))(m:O i a)(t1:Ow K G (upd H a o) v t' (O i)):
  Ev K H0 G0 G (upd H a o) σ (Δ.set i (Sl.mk b t')) (Fm O i (O i)):=
 have ms:=MStep.write E.st.gh m (E.out i a m).1 o
 E.step2 (Sl.mk_own b t') (Sl.mk_lk b t') (E.mk_lt e q t') ms.weak s1 (λb hb=>⟨.inl hb,(E.out i b hb).1,ms.al b (E.out i b hb).2.2⟩) t1
theorem Ow.dic_of{G H:Hp}{zm:List (Af×Tn)}{S:AS}(t:Ow K G H v (.dic zm) S):∃a kvs S1,v=.ref a/\S a/\H a=some (.dK kvs)/\kvs.map (·.1)=zm.map (·.1)/\(∀b,S1 b->S b/\b≠a)/\OwL K G H (kvs.map (·.2)) (zm.map (·.2)) S1:=by
 cases t with
 |dic h hk ha sub r=>exact⟨_,_,_,rfl,ha,h,hk,sub,r⟩
section
variable{X:Cx}{EX:Ay}{pos:Pos}
end
theorem ar_6{G:Hp}(k:Af):∀{kvs:List (Af×V)} {kds:List (Af×D)},kvs.map (·.1)=kds.map (·.1)->HasL K G (kvs.map (·.2)) (kds.map (·.2))->(o_0 kvs k).map (·.1)=(Ei kds k).map (·.1)/\HasL K G ((o_0 kvs k).map (·.2)) ((Ei kds k).map (·.2))
 | [],[],_,_=>⟨rfl,.nil⟩
 | [],_::_,e,_=>by simp at e
 |_::_,[],e,_=>by simp at e
 |(x,v)::kvs,(y,d)::kds,e,r=>by
  simp only [List.map_cons,List.cons.injEq] at e;obtain⟨e1,e2⟩:=e;subst e1;cases r with
  |cons h r=>
   obtain⟨i1,i2⟩:=ar_6 k (kvs:=kvs) (kds:=kds) e2 r
   by_cases q:x=k
   ·have a1:o_0 ((x,v)::kvs) k=o_0 kvs k:=cf_0 q;have a2:Ei ((x,d)::kds) k=Ei kds k:=by unfold Ei;rw [List.filter_cons_of_neg (by simpa using q)]
    rw [a1,a2];exact⟨i1,i2⟩
   ·have a1:o_0 ((x,v)::kvs) k=(x,v)::o_0 kvs k:=cf_1 q;have a2:Ei ((x,d)::kds) k=(x,d)::Ei kds k:=by unfold Ei;rw [List.filter_cons_of_pos (by simpa using q)]
    rw [a1,a2];exact⟨by rw [List.map_cons,List.map_cons,i1],.cons h i2⟩
section
variable{X:Cx}{EX:Ay}{pos:Pos}
end
def kD:Af->D
 | .inl i=> .int i
 | .inr x=> .str x
theorem ar_7{G:Hp}(k:Af):Has K G (kV k) (kD k):=by cases k <;> constructor
theorem bz_0{G:Hp}:∀ks:List Af,HasL K G (ks.map kV) (ks.map kD)
 | []=> .nil
 |k::ks=> .cons (ar_7 k) (bz_0 ks)
theorem co_0{P:Program}{w:World}{k:Af}{u:Value}(h:(Di P w).is k u=true):RelV (kV k) u:=by
 rcases g_1 h with⟨i,t,rfl,rfl⟩|⟨x,t,rfl,rfl⟩
 ·exact⟨t,rfl⟩
 ·exact⟨t,rfl⟩
theorem ai_5{P:Program}{w:World}:∀{kvs:List (Af×V)} {vs:List (Af×Value)} {us:List Value},KV kvs vs->us.length=vs.length->(∀(j:Nat) v,us[j]? =some v->∃k x,vs[j]? =some (k,x)/\(Di P w).is k v=true)->Vals ((kvs.map (·.1)).map kV) us
 | [],vs,us,r,hl,_=>by
  have:=r.length;simp at this;have:us= []:=List.eq_nil_of_length_eq_zero (by omega);subst this;exact .nil
 |(k,v)::kvs,vs,us,r,hl,h=>by
  cases r with
  |cons h1 r=>
   rename_i q vs;obtain⟨k',x⟩:=q;cases us with
   |nil=>simp at hl
   |cons u us=>
    obtain⟨k2,x2,e,i⟩:=h 0 u rfl;have e:(k',x)=(k2,x2):=by simpa using e
    cases e;have e1:k=k':=h1.1;subst e1;exact .cons (co_0 i) (ai_5 r (by simpa using hl) λj v e=>by
     obtain⟨a,b,c,d⟩:=h (j + 1) v (by simpa using e);exact⟨a,b,by simpa using c,d⟩)
section
variable{X:Cx}{EX:Ay}{pos:Pos}
end
section
variable{X:Cx}{EX:Ay}{pos:Pos}
theorem HasL.dropLast{G:Hp}{vs:List V}{ds:List D}(h:HasL K G vs ds):HasL K G vs.dropLast ds.dropLast:=by
 rw [List.dropLast_eq_take,List.dropLast_eq_take,h.length];exact h.take _
theorem HasL.eraseIdx{G:Hp}:∀{vs:List V} {ds:List D} (n:Nat),HasL K G vs ds->HasL K G (vs.eraseIdx n) (ds.eraseIdx n)
 |_,_,_,.nil=> .nil
 |_,_,0,.cons _ r=>r
 |_,_,n + 1,.cons h r=> .cons h (HasL.eraseIdx n r)
def bz_1(kvs:List (Af×D))(b c:D):R W:=match Ee b with
 |some k=>(match Bh kvs k with
  |some x=> .ok (.sh x)
  |none=> .ok (.sh c))
 |none=> .no
def bk_5(f g h:FE):FE:=λ δ=>(f δ).bind λa=>match a.d with
 | .dic kvs=>(g δ).bind λb=>(h δ).bind λc=>bz_1 kvs b.d c.d
 |_=> .no
theorem cz_2{o e e2:Expr}{f g h:FE}{zg zf:Pos}(hu:X.A.units + 64 < cLine)(ho:ED X EX o f)(he:ED X EX e g)(hf:ED X EX e2 h)(hm:M2 X o "get" zg e e2 zf:=by exact⟨rfl,rfl,rfl,rfl⟩):
  ED X EX (.Call (.Attribute o "get" zg) [e,e2] [] zf) (bk_5 f g h):=
 PE.imp (cl_9 (by omega) ho he hf hm) λ σ H Q ⟨G,δ,g0,s0,o⟩=>tD.seq g0 s0 o λw v G1 H1 e1 st1 r1 o1=>by
  revert r1 o1;cases w.d with
  |dic kvs=>
   intro r1 o1;cases r1 with
   |dic hh hk r=>
    rename_i a0 kv0;refine⟨_,rfl,.inl ⟨_,Same.rdD st1.gh hh⟩, ?_⟩;refine tD.seq st1.gh (s0.mono st1.gg) o1 λw2 v2 G2 H2 _ st2 r2 o2=>tD.seq st2.gh (s0.mono (st1.gg.trans st2.gg)) o2 λw3 v3 G3 H3 _ st3 r3 o3=> ?_;unfold bz_1 at o3
    split at o3
    ·rename_i k ek;have ev:=t_4 r2 ek;subst ev;have hg:=Same.rdD st3.gh (Same.rdD st3.gg (Same.rdD st2.gg hh));refine⟨_,DGet.rd hg, ?_⟩;obtain⟨i1,i2⟩:=v_5 (K:=X.K) (G:=G3) k hk (r.mono (st2.gg.trans st3.gg))
     split at o3
     ·rename_i x ex;obtain⟨u,e5,e6⟩:=i2 x ex;rw [e5];exact Dc o3 st3.gh e6
     ·rename_i ex;have:Ch kv0 k=none:=by
       cases q:Ch kv0 k with
       |none=>rfl
       |some u=>
        rw [q] at i1;unfold Cz at i1;rw [ex] at i1;cases i1
      rw [this];exact Dc o3 st3.gh r3
    ·exact o3.elim
  |_=>intro _ o1;exact False.elim o1
end
section
variable{X:Cx}{EX:Ay}{e:Expr}{es:List Expr}{x:Str}{pp pos:Pos}{c:Bool}{k k':Nat}{ps:List Str}
theorem co_1{sp:Sp}{ta:TA}{f:Addr}(hr:RoomC c k' X.A)(lk:Lk X EX)(ok:FnX X.prog X.w X.K X.mg X.base c k f fd ps sp)(hm:X.mg x=some (.ref f))(kp:keepIn X.K (.ref f)=true)(hb:Binds X.K fd ps [])(ha:PA X (e::es) ta)(hk:k<=k')(hg:Gl X x)(hdb:(x ==("__debug__" :Str))=false)
  (he:starEach (e::es) X.env=(false,eval e X.env)::starEach es X.env) (hpl:(backTo pos (starEach es X.env)).any (·.1)=false):
  PE X (.Call (.Name x pp) (e::es) [] pos) (λ σ H Q=>ta σ H λvs H1=>sp vs H1 Q (EXE X.K (EX σ))):=by
 intro zd s σ H Q I q;refine wpAny_Call_Name_kw (p_6 I hg hm ?_ hdb);refine callWith_K (h₀:=X.base) I.ok.mod.kin kp (Aw (ha pos zd s σ H _ I q) λus s1 ⟨vs,H1,I1,r,q⟩=>⟨I1.kIn, ?_⟩) he hpl;exact ao_0 ok (hr.mono hk) hb lk I1 r q
end
def OFld(K:Frag)(cs:List Str)(f:Str):Prop:=∀c,cs.contains c=true->∀C,ClsAt K c C->Cls K C/\NoAttr K C f
theorem OFld.nil{f:Str}:OFld K [] f:=λc h=>by cases h
theorem ClsAt.same{c:Str}{C C':Addr}(a:ClsAt K c C)(b:ClsAt K c C'):C'=C:=by
 unfold ClsAt at a b;rw [a] at b;injection b with b
 injection b with b
 injection b with b
 exact b.symm
theorem OFld.one{c:Str}{C:Addr}{cs:List Str}{f:Str}(a:ClsAt K c C)(k:Cls K C)(n:NoAttr K C f)(r:OFld K cs f):OFld K (c::cs) f:=λc' h C' a'=>by
 rw [List.contains_cons,Bool.or_eq_true] at h;rcases h with h|h
 ·have e:=beq_iff_eq.mp h;subst e;rw [a.same a'];exact⟨k,n⟩
 ·exact r c' h C' a'
def Co(cs:List Str)(f:Str)(fo:FE):FE:=λ δ=>(fo δ).bind λw=>match w.d with
 | .obj c ns vs=>if cs.contains c then(match(ns.zip vs).lookup f with
  |some d=> .ok (.sh d)
  |none=> .no) else .no
 |_=> .no
theorem ao_4{G:Hp}{f:Str}:∀{ns:List Str} {us:List V} {vs:List D},HasL K G us vs->ns.length=us.length->(∀d,(ns.zip vs).lookup f=some d->∃v,(ns.zip us).lookup f=some v/\Has K G v d)/\(ns.contains f=false->(ns.zip us).lookup f=none)
 | [],_,_,_,_=>⟨λd e=>(by cases e),λ_=>rfl⟩
 |n::ns,[],_,_,e=>by simp at e
 |n::ns,u::us,_,.cons h r,e=>by
  obtain⟨i1,i2⟩:=ao_4 (f:=f) (ns:=ns) r (by simpa using e);refine⟨λd q=> ?_,λq=> ?_⟩
  ·rw [List.zip_cons_cons,List.lookup_cons] at q⊢;cases hb:f ==n with
   |true=>simp only [hb] at q⊢;cases q;exact⟨u,rfl,h⟩
   |false=>simp only [hb] at q⊢;exact i1 d q
  ·rw [List.contains_cons,Bool.or_eq_false_iff] at q;rw [List.zip_cons_cons,List.lookup_cons];simp only [q.1];exact i2 q.2
section
variable{X:Cx}{EX:Ay}{e:Expr}{pos:Pos}
theorem n_4{cs:List Str}{f:Str}{fo:FE}(k:OFld X.K cs f)(he:ED X EX e fo)(hb:attributeBase e f X.env (eval e X.env)=eval e X.env:=by rfl):ED X EX (.Attribute e f pos) (Co cs f fo):=
 PE.imp (br_5 he hb) λ σ H Q ⟨G,δ,g0,s0,o⟩=>tD.seq g0 s0 o λw v G1 H1 _ st r o'=>by
  revert o' r;cases w.d with
  |obj c ns vs=>
   intro r o';simp only at o'
   split at o'
   ·rename_i hc
    split at o'
    ·rename_i d ed;cases r with
     |obj hC hh hl rl=>
      obtain⟨v1,e1,h1⟩:=(ao_4 (f:=f) rl hl).1 d ed;obtain⟨kc,kn⟩:=k c hc _ hC;exact⟨_,_,_,_,v1,rfl,st.gh _ _ hh,kc,kn,e1,Dc o' st.gh h1⟩
    ·exact o'.elim
   ·exact o'.elim
  |_=>intro _ o';exact False.elim o'
end
structure MethD(P:Program)(w:World)(K:Frag)(mg:Str->Option Value)(base:Heap)(cc:Bool)(k n:Nat)(m c:Str)(F:List D->R W):Prop where
 ex:∃C f fd ps,ClsAt K c C/\Cls K C/\Meth K C m f/\FnX P w K mg base cc k f fd ps (Ca K (n + 1) F)/\Binds K fd ps []
def MethT(P:Program)(w:World)(K:Frag)(mg:Str->Option Value)(base:Heap)(cc:Bool)(k n:Nat)(m:Str)(tb:List (Str×(List D->R W))):Prop:=∀c F,tb.lookup c=some F->MethD P w K mg base cc k n m c F
theorem MethT.nil{P:Program}{w:World}{cc:Bool}{k n:Nat}{m:Str}:MethT P w K mg base cc k n m []:=λc F e=>by cases e
theorem FnX.up{P:Program}{w:World}{c:Bool}{j k:Nat}{f:Addr}{ps:List Str}{sp:Sp}(F:FnX P w K mg base c j f fd ps sp)(h:j<=k):FnX P w K mg base c k f fd ps sp:=
 ⟨F.len,λA outer s H args us vs Q E hr=>F.run A outer s H args us vs Q E (hr.mono h)⟩
theorem MethT.one{P:Program}{w:World}{cc:Bool}{j k n:Nat}{m c:Str}{F:List D->R W}{tb:List (Str×(List D->R W))}(d:MethD P w K mg base cc j n m c F)(hj:j<=k)(r:MethT P w K mg base cc k n m tb):MethT P w K mg base cc k n m ((c,F)::tb):=λc' F' e=>by
 rw [List.lookup_cons] at e;cases hb:c' ==c with
 |true=>
  simp only [hb] at e;cases e;have:=beq_iff_eq.mp hb;subst this;obtain⟨C,f,fd,ps,a1,a2,a3,a4,a5⟩:=d.ex;exact⟨C,f,fd,ps,a1,a2,a3,a4.up hj,a5⟩
 |false=>simp only [hb] at e;exact r c' F' e
def By(m:Str)(n:Nat)(tb:List (Str×(List D->R W)))(fo:FE)(fa:FA):FE:=λ δ=>(fo δ).bind λw=>match w.d with
 | .obj c ns vs=>if ns.contains m then .no else match tb.lookup c with
  |some F=>(fa δ).bind λds=>if ds.length=n then F (.obj c ns vs::ds) else .no
  |none=> .no
 |_=> .no
section
variable{X:Cx}{EX:Ay}{e o:Expr}{es:List Expr}{pos zg:Pos}{cc:Bool}{k k' n:Nat}{m:Str}{tb:List (Str×(List D->R W))}{fo:FE}{fa:FA}
def co_2(X:Cx)(EX:Ay)(cc:Bool)(k:Nat)(m:Str)(ta:TE)(t:TA):TE:=λ σ H Q=>ta σ H λx H1=>∃a C dx fs f fd ps sp,x=.ref a/\H1 a=some (.ins C dx fs)/\fs.lookup m=none/\Cls X.K C/\Meth X.K C m f/\
 FnX X.prog X.w X.K X.mg X.base cc k f fd ps sp/\Binds X.K fd ps []/\t σ H1 λvs H2=>sp (.ref a::vs) H2 Q (EXE X.K (EX σ))
theorem bz_2{pl:Sem Bool}{ta:TE}{t:TA}(he:PE X o ta)(hr:RoomC cc k X.A)(lk:Lk X EX)(ha:PA X (e::es) t)
  (hst:starEach (e::es) X.env=(false,eval e X.env)::starEach es X.env) (hpl:(backTo pos (starEach es X.env)).any (·.1)=false)
  (ht:eval (.Call (.Attribute o m zg) (e::es) [] pos) X.env=(do
   let ov<-eval o X.env
   standAt zg.atName
   let(f,first)<-holding [ov] (getMethod ov m pl)
   callWith pos f first (backTo pos (starEach (e::es) X.env)) (backToKw pos (keywordEach [] X.env)))):
  PE X (.Call (.Attribute o m zg) (e::es) [] pos) (co_2 X EX cc k m ta t):=by
 intro zd s σ H Q I h;refine methodCall_KW (pl:=pl) (Aw (he zd s σ H _ I h) λu s1 hh=> ?_) ht;obtain⟨x,H1,I1,rx,a,C,dx,fs,f,fd,ps,sp,ex,ea,l,c,hm,F,hb,q⟩:=hh;subst ex;obtain rfl:u=Value.ref a:=rx;refine aq_1 I1 ea c hm l ?_;refine callWith_K (first:=[.ref a]) (h₀:=X.base) I.ok.mod.kin hm.kp (Aw (ha pos zd s1 σ H1 _ I1 q) λus s2 ⟨vs,H2,I2,r,q2⟩=>⟨I2.kIn, ?_⟩) hst hpl;exact ao_0 (us:=.ref a::us) (vs:=.ref a::vs) F hr hb lk I2 (.cons rfl r) q2
theorem co_3{pl:Sem Bool}{ta:TE}(he:PE X o ta)(hr:RoomC cc k X.A)(lk:Lk X EX)
  (ht:eval (.Call (.Attribute o m zg) [] [] pos) X.env=(do
   let ov<-eval o X.env
   standAt zg.atName
   let(f,first)<-holding [ov] (getMethod ov m pl)
   callWith pos f first (backTo pos (starEach [] X.env)) (backToKw pos (keywordEach [] X.env)))):
  PE X (.Call (.Attribute o m zg) [] [] pos) (co_2 X EX cc k m ta tNil):=by
 intro zd s σ H Q I h;refine methodCall_KW (pl:=pl) (Aw (he zd s σ H _ I h) λu s1 hh=> ?_) ht;obtain⟨x,H1,I1,rx,a,C,dx,fs,f,fd,ps,sp,ex,ea,l,c,hm,F,hb,q⟩:=hh;subst ex;obtain rfl:u=Value.ref a:=rx;refine aq_1 I1 ea c hm l ?_;exact callWith_K0 (first:=[.ref a]) I1.kIn hm.kp (ao_0 (us:=[.ref a]) (vs:=[.ref a]) F hr hb lk I1 (.cons rfl .nil) q)
theorem dl_4{σ:Sg}{Q:VK}(hK:X.K=K)(T:MethT X.prog X.w X.K X.mg X.base cc k n m tb)(q:tD K EX (By m n tb fo fa) σ H Q):co_2 X EX cc k m (tD K EX fo) (tDa K EX fa) σ H Q:=by
 subst hK;obtain⟨G,δ,g0,s0,o⟩:=q;refine tD.seq g0 s0 o λw v G1 H1 _ st r o'=> ?_;revert o' r;cases w.d with
 |obj c ns vs=>
  intro r o';simp only at o'
  split at o'
  ·exact o'.elim
  ·rename_i hn
   split at o'
   ·rename_i F ef;cases r with
    |obj hC hh hl rl=>
     rename_i a0 C0 dx0 us0;obtain⟨C,f,fd,ps,a1,a2,a3,a4,a5⟩:=(T c F ef).ex;have:=a1.same hC;subst this;refine⟨_,_,_,_,f,fd,ps,_,rfl,st.gh _ _ hh,(ao_4 (f:=m) rl hl).2 (by simpa using hn),a2,a3,a4,a5, ?_⟩;refine tDa.seq st.gh (s0.mono st.gg) o' λds us G' H' _ st' r' o2=> ?_
     split at o2
     ·rename_i zk;refine⟨by rw [List.length_cons,r'.length,zk],G',.obj c ns vs::ds,st'.gh,.cons (Has.mono st'.gg (.obj hC hh hl rl)) r', ?_⟩;cases q:F (.obj c ns vs::ds) with
      |ok w=>rw [q] at o2;exact o2
      |ex x=>rw [q] at o2;exact EXof.in o2
      |no=>rw [q] at o2;exact o2.elim
     ·exact o2.elim
   ·exact o'.elim
 |_=>intro _ o';exact False.elim o'
theorem v_6{pl:Sem Bool}(T:MethT X.prog X.w X.K X.mg X.base cc k n m tb)(hr:RoomC cc k' X.A)(lk:Lk X EX)(he:ED X EX o fo)(ha:AD X EX (e::es) fa)(hk:k<=k':=by decide)
  (hst:starEach (e::es) X.env=(false,eval e X.env)::starEach es X.env:=by rfl) (hpl:(backTo pos (starEach es X.env)).any (·.1)=false:=by rfl)
  (ht:eval (.Call (.Attribute o m zg) (e::es) [] pos) X.env=(do
   let ov<-eval o X.env
   standAt zg.atName
   let(f,first)<-holding [ov] (getMethod ov m pl)
   callWith pos f first (backTo pos (starEach (e::es) X.env)) (backToKw pos (keywordEach [] X.env))):=by rfl):ED X EX (.Call (.Attribute o m zg) (e::es) [] pos) (By m n tb fo fa):=
 PE.imp (bz_2 he (hr.mono hk) lk ha hst hpl ht) λ_ _ _ q=>dl_4 rfl T q
theorem o_1{pl:Sem Bool}(T:MethT X.prog X.w X.K X.mg X.base cc k 0 m tb)(hr:RoomC cc k' X.A)(lk:Lk X EX)(he:ED X EX o fo)(hk:k<=k':=by decide)
  (ht:eval (.Call (.Attribute o m zg) [] [] pos) X.env=(do
   let ov<-eval o X.env
   standAt zg.atName
   let(f,first)<-holding [ov] (getMethod ov m pl)
   callWith pos f first (backTo pos (starEach [] X.env)) (backToKw pos (keywordEach [] X.env))):=by rfl):ED X EX (.Call (.Attribute o m zg) [] [] pos) (By m 0 tb fo Ac):=
 PE.imp (co_3 he (hr.mono hk) lk ht) λ σ H Q ⟨G,δ,g0,s0,q⟩=>tD.seq g0 s0 q λw v G1 H1 _ st r o'=>by
  revert o' r;cases w.d with
  |obj c ns vs=>
   intro r o';simp only at o'
   split at o'
   ·exact o'.elim
   ·rename_i hn
    split at o'
    ·rename_i F ef;cases r with
     |obj hC hh hl rl=>
      obtain⟨C,f,fd,ps,a1,a2,a3,a4,a5⟩:=(T c F ef).ex;have:=a1.same hC;subst this;refine⟨_,_,_,_,f,fd,ps,_,rfl,st.gh _ _ hh,(ao_4 (f:=m) rl hl).2 (by simpa using hn),a2,a3,a4,a5, ?_⟩;have o2:Out X.K (EX σ) G1 H1 (F [.obj c ns vs]) Q:=o';refine⟨rfl,G1,[.obj c ns vs],st.gh,.cons (.obj hC hh hl rl) .nil, ?_⟩;cases q:F [.obj c ns vs] with
      |ok w=>rw [q] at o2;exact o2
      |ex x=>rw [q] at o2;exact EXof.in o2
      |no=>rw [q] at o2;exact o2.elim
    ·exact o'.elim
  |_=>intro _ o';exact False.elim o'
end
def ar_8(n:Nat)(c:Str)(ds:List D):SE:=.lt (.obj c [] [])::(ds.map Sl.sh ++ List.replicate (n - (ds.length + 1)) .no)
def spI(K:Frag)(C:Addr)(n:Nat)(F:List D->R (List Str×List D)):Sp:=λvs H Q E=>∃x dx vs0 Hq G ds,vs=.ref x::vs0/\vs0.length=n/\Hq x=none/\Same Hq H/\H x=some (.ins C dx [])/\Same G Hq/\HasL K G vs0 ds/\
 (match F ds with
 | .ok p=>∀G' H' us dx',Step G Hq G' H'->G' x=none->H' x=some (.ins C dx' (p.1.zip us))->p.1.length=us.length->HasL K G' us p.2->Q .non H'
 | .ex e=>(EXof K E).p e G Hq
 | .no=>False)
theorem ba_0{G H h0:Hp}{v0:V}{vs:List V}{ds:List D}{N:List Str}{b:Nat->Addr}(g:Same G H)(i0:Same h0 H)(r:HasL K G vs ds)(hl:vs.length + 1<=N.length):Ev K ⟨h0,b⟩ G G H (L2.start N (v0::vs)) (.no::(ds.map Sl.sh ++ List.replicate (N.length - (ds.length + 1)) .no)) (λ_ _=>False):=by
 have key:∀(i:Nat) (s:Sl),(Sl.no::(ds.map Sl.sh ++ List.replicate (N.length - (ds.length + 1)) .no))[i]? =some s->(∃j d,i=j + 1/\s=.sh d/\ds[j]? =some d)\/s=.no:=λi s e=>by
  cases i with
  |zero=>exact .inr (by simpa using e.symm)
  |succ i=>
   rw [List.getElem?_cons_succ] at e
   by_cases hi:i < ds.length
   ·rw [List.getElem?_append_left (by rw [List.length_map];exact hi),List.getElem?_map] at e;obtain⟨d,e1,e2⟩:=Option.map_eq_some_iff.mp e;exact .inl ⟨i,d,rfl,e2.symm,e1⟩
   ·rw [List.getElem?_append_right (by rw [List.length_map];omega),List.getElem?_replicate] at e
    split at e
    ·cases e;exact .inr rfl
    ·cases e
 refine⟨⟨i0,g,Same.refl _,λ_ n _=>n⟩, ?_,λi d e=> ?_,λi z d e zo=> ?_,λ_ _ ha=>ha.elim,λ_ _ _ ha=>ha.elim,λi d e=> ?_,λi d e=> ?_⟩
 ·unfold L2.start;have:=r.length;simp only [List.length_append,List.length_map,List.length_replicate,List.length_cons] at hl⊢;omega
 ·rcases key i _ e with⟨j,d',rfl,q,q2⟩|q
  ·cases q;obtain⟨v,e1,h⟩:=r.get q2;refine⟨v, ?_,h⟩;unfold L2.start;have hi:j < vs.length:=(List.getElem?_eq_some_iff.mp e1).1;rw [List.getElem?_append_left (by rw [List.length_map,List.length_cons];omega),List.getElem?_map,List.getElem?_cons_succ,e1];rfl
  ·cases q
 ·rcases key i _ e with⟨j,d',_,q,_⟩|q <;> (subst q;cases zo)
 ·rcases key i _ e with⟨j,d',_,q,_⟩|q <;> cases q
 ·rcases key i _ e with⟨j,d',_,q,_⟩|q <;> cases q
theorem ar_9{f:Str}{y:V}:∀{ns:List Str} {us:List V},ns.length=us.length->ns.contains f=false->Ez f y (ns.zip us)=(ns ++ [f]).zip (us ++ [y])
 | [],[],_,_=>rfl
 | [],_::_,e,_=>by simp at e
 |_::_,[],e,_=>by simp at e
 |n::ns,u::us,e,h=>by
  rw [List.contains_cons,Bool.or_eq_false_iff] at h;have hn:¬n=f:=λz=>by rw [z] at h;simp at h
  show Ez f y ((n,u)::ns.zip us)=(n,u)::(ns ++ [f]).zip (us ++ [y]);unfold Ez;rw [if_neg hn,ar_9 (by simpa using e) h.2]
def ak_6(i:Nat)(cs:List Str)(f:Str)(js:List Nat)(fe:FE):FS:=λ Δ=>match(gsome js Δ)[i]? with
 |some (.lt (.obj c ns ts))=>if cs.contains c=true/\ns.contains f=false/\ns.length < 1000 then(match fe (As (gsome js Δ)) with
  | .ok w=> .nx ((gsome js Δ).set i (.lt (.obj c (ns ++ [f]) (ts ++ [.sh w.d]))))
  | .ex x=> .ex x (gsome js Δ)
  | .no=> .no) else .no
 |_=> .no
section
variable{X:Cx}{EX:Ay}{pos:Pos}
theorem ao_5{i:Nat}{cs:List Str}{f x:Str}(js:List Nat){e:Expr}{fe:FE}{p1 p2:Pos}(k:OFld X.K cs f)(he:ED X EX e fe)(hN:X.N[i]? =some x:=by rfl)(hv:Fu X.env.scope x:=by first|exact Or.inl rfl|exact Or.inr (Or.inl rfl)|exact Or.inr (Or.inr rfl))(hd:(x ==("__debug__" :Str))=false:=by decide)
  (hcd:(x ==("__classdict__" :Str))=false:=by decide) (hs:swapsWith e (some (.Attribute (.Name x p1) f p2)) pos.line X.env=pure false:=by rfl):SD X EX (.Assign [.Attribute (.Name x p1) f p2] e pos) (ak_6 i cs f js fe):=
 PS.imp (br_6 (Ft hN hv hd hcd) he hs) λD σ H ⟨H0,G0,G,Δ,O,E,q⟩=>by
  obtain⟨G1,O1,sg,E1⟩:=E.gsome js;unfold ak_6 at q;generalize gsome js Δ=Δ1 at q E1
  split at q
  ·rename_i c ns ts e1
   split at q
   ·rename_i hc;obtain⟨hc1,hc2,hc3⟩:=hc;refine⟨G1,As Δ1,E1.st.gh,E1.gsh, ?_⟩;cases e2:fe (As Δ1) with
    |ex y=>simp only [e2] at q;exact q σ G1 H O1 E1 sg
    |no=>simp only [e2] at q;exact q.elim
    |ok w=>
     simp only [e2] at q;refine WP.intro λv G2 H2 st r=> ?_;have E2:=E1.grow st;obtain⟨v0,s1,t⟩:=E2.ow i _ _ e1 rfl;have s2:=E2.lt i _ e1;generalize et:(Tn.obj c ns ts)=t0 at t;cases t with
     | @obj a C dx c2 ns2 us ts2 S S1 hC h hl ha sub rl=>
      injection et with et1 et2 et3
      subst et1 et2 et3;obtain⟨kc,kn⟩:=k _ hc1 _ hC;refine⟨_,s1,_,_,_,_,rfl,h,kc,kn,by rw [List.length_zip,<-hl,Nat.min_self];exact hc3, ?_⟩;rw [ar_9 hl hc2];have ms:=MStep.write (S:=O1 i) E2.st.gh ha (E2.out i _ ha).1 (.ins C dx ((ns ++ [f]).zip (us ++ [v])));refine q σ G2 _ _ (E2.step2 (S:=O1 i) (z:=.lt _) rfl (λ_ z=>by cases z) (λ_ _=>by rw [s1] at s2⊢;exact s2) ms.weak s1 (λb hb=>⟨.inl hb,(E2.out i b hb).1,ms.al b (E2.out i b hb).2.2⟩) ?_) (sg.trans st.gg);refine .obj hC Ba (by rw [List.length_append,List.length_append,hl];rfl) ha sub ?_;refine OwL.append (S2:=λ_=>False) (rl.mono (Same.refl _) (λb o hb z=> ?_) λ_ z=>z) (.cons (S1:=λ_=>False) (S2:=λ_=>False) (.sh r) .nil (λ_ z _=>z) (λ_ z=>z.elim) λ_ z=>z.elim) (λ_ _ z=>z) (λ_ z=>z) λ_ z=>z.elim;rw [An (sub b hb).2];exact z
     |_=>cases et
   ·exact q.elim
  ·exact q.elim
end
section
variable{X:Cx}{EX:Ay}{e:Expr}{es:List Expr}{x:Str}{pp pos:Pos}{cc:Bool}{k k' n:Nat}{ps:List Str}{C f:Addr}{fd:FuncData}
theorem cg_1{zd:List (Addr×Obj)}{σ:Sg}{s:Shared}{Q:VK}{vs:List V}{sp:Sp}(M:Mk X.K C f)(F:FnX X.prog X.w X.K X.mg X.base cc k f fd ps sp)(hr:RoomC cc (k + 1) X.A)(hb:Binds X.K fd ps [])(lk:Lk X EX)(I:Inv X zd σ H s)(r:Vals vs us)
  (h:∀x dx,H x=none->H dx=none->dx≠x->sp (.ref x::vs) (upd (upd H dx (.own x)) x (.ins C dx [])) (λv H2=>v=.non/\Q (.ref x) H2) (EXE X.K (EX σ))):wpAny (model X.prog X.w) X.A (call (.ref C) us) (EP X zd σ Q) X.xe s:=by
 have hq:=h (s.heap.objs.size + 1) s.heap.objs.size (I.hok.fresh (Nat.le_succ _)) (I.hok.fresh (Nat.le_refl _)) (Nat.ne_of_lt (Nat.lt_succ_self _));have I2:=Inv.made (C:=C) I;have r2:Vals (V.ref (s.heap.objs.size + 1)::vs) (Value.ref (s.heap.objs.size + 1)::us):=.cons rfl r;have hl:(Value.ref (s.heap.objs.size + 1)::us).length=ps.length:=by
  rw [<-r2.length];exact F.len _ _ _ _ hq
 have hb':=hb _ (Value.ref (s.heap.objs.size + 1)::us) I2.kIn (by rw [List.append_nil];exact hl);rw [List.append_nil] at hb';refine wpAny_call (ck_1 (f:=f) I.kIn M.makes M.init (beq_iff_eq.mp M.fn) (codeAny_mono (F.run _ X.stack _ _ ⟨Value.ref (s.heap.objs.size + 1)::us,[]⟩ (Value.ref (s.heap.objs.size + 1)::us) _ _ _ (hr.make C us []) (I2.env0.make C us []) hb' r2 hq) λr s' hq'=> ?_));cases r with
 |error e=>exact lk zd σ _ _ e s' I2 hq'
 |ok fl=>
  cases fl with
  |ret u=>
   obtain⟨v,H',I3,rv,ev,q3⟩:=I2.after hq';subst ev;exact⟨rv,⟨V.ref (s.heap.objs.size + 1),H',I3,rfl,q3⟩⟩
  |next=>exact False.elim hq'
  |brk=>exact False.elim hq'
  |cont=>exact False.elim hq'
def MakD(P:Program)(w:World)(K:Frag)(mg:Str->Option Value)(base:Heap)(cc:Bool)(c:Str)(k n:Nat)(F:List D->R (List Str×List D)):Prop:=
 ∃C f fd ps,ClsAt K c C/\mg c=some (.ref C)/\Mk K C f/\FnX P w K mg base cc k f fd ps (spI K C n F)/\Binds K fd ps []
end
section
variable{K:Frag}{G:Hp}{a:Addr}{vs:List V}{ds:List D}
end
section
variable{X:Cx}{EX:Ay}{pos:Pos}
end
end L3
namespace L3
open PySem L2 Builtin Builtin.Str
variable{K:Frag}{fd:FuncData}{mg:Str->Option Value}{us:List Value}{base:Heap}{H:Hp}{X:Cx}{pos:Pos}{v:V}
theorem bz_3{x y:Str}(h:x.cps.toList=y.cps.toList):x=y:=by
 obtain⟨a⟩:=x;obtain⟨b⟩:=y;simp only at h;have:a=b:=by
  have:=congrArg List.toArray h;simpa using this
 rw [this]
theorem cz_3(x:Str):x.length=x.cps.toList.length:=by simp [Str.length]
theorem cz_4(x y:Str):(x ++ y).cps.toList=x.cps.toList ++ y.cps.toList:=by
 show(Str.append x y).cps.toList=_;simp [Str.append]
end L3
namespace L3
open PySem L2
variable{K:Frag}{fd:FuncData}{mg:Str->Option Value}{us:List Value}{base:Heap}{H:Hp}{X:Cx}{pos:Pos}{v:V}
theorem j_0(i j:Int):Ec (.int i) (.int j)=.ok (.sh (.bl (decide (i=j)))):=by
 have h:Db (.int i) (.int j)=decide (i=j):=by
  show(i ==j)=decide (i=j);rw [Bool.beq_eq_decide_eq]
 show(if eqC (.int i) (.int j)=true then R.ok (W.sh (D.bl (Db (.int i) (.int j)))) else .no)=_;rw [if_pos (by rfl),h]
theorem ao_6(i j:Int):Cn (.int i) (.int j)=.ok (.sh (.bl (!decide (i=j)))):=by
 have h:Db (.int i) (.int j)=decide (i=j):=by
  show(i ==j)=decide (i=j);rw [Bool.beq_eq_decide_eq]
 show(if eqC (.int i) (.int j)=true then R.ok (W.sh (D.bl (!Db (.int i) (.int j)))) else .no)=_;rw [if_pos (by rfl),h]
theorem bz_4(x y:Str):Cn (.str x) (.str y)=.ok (.sh (.bl (!decide (x=y)))):=rfl
theorem m_1{i j:Int}(h1: -18446744073709551616 < i)(h2:i < 18446744073709551616):Ej i j=true:=decide_eq_true (.inl (by omega))
theorem be_5{i j:Int}(h1: -18446744073709551616 < j)(h2:j < 18446744073709551616):Ej i j=true:=decide_eq_true (.inr (by omega))
theorem j_1{i j:Int}(h:Ej i j=true):Dd (.int i) (.int j)=.ok (.sh (.int (i * j))):=by unfold Dd intD;simp only [h,if_true]
theorem j_7(i j:Int):Bp (.int i) (.int j)=.ok (.sh (.int (i + j))):=rfl
theorem ac_8(i j:Int):Ex (.int i) (.int j)=.ok (.sh (.int (i - j))):=rfl
theorem x_8{i j:Int}(h1:0 < j)(h2:j < 1361129467683753853853498429727072845824):Fx (.int i) (.int j)=.ok (.sh (.int (i / j))):=by
 exact if_pos (show divC i j=true from decide_eq_true ⟨h1,by omega⟩)
theorem Cs{i j:Int}(h1:0 < j):Bt (.int i) (.int j)=.ok (.sh (.int (i % j))):=by
 exact if_pos (show modC i j=true from decide_eq_true h1)
theorem af_0(i j:Int):ltD (.int i) (.int j)=.ok (.sh (.bl (decide (i < j)))):=rfl
theorem ak_7(i j:Int):leD (.int i) (.int j)=.ok (.sh (.bl (decide (i<=j)))):=rfl
theorem df_4(i j:Int):gtD (.int i) (.int j)=.ok (.sh (.bl (decide (j < i)))):=rfl
theorem dl_5{x y:Str}(h:x.length + y.length<=16777216):Bp (.str x) (.str y)=.ok (.sh (.str (x ++ y))):=if_pos h
theorem dl_6{i j:Int}(h:powC i j=true):powD (.int i) (.int j)=.ok (.sh (.int (i ^ j.toNat))):=by unfold powD intD;simp only [h,if_true]
theorem co_4{i j:Int}(h1:0<=j)(h2:j<=1000000)(h3: -18446744073709551616 < i)(h4:i < 18446744073709551616):powC i j=true:=decide_eq_true ⟨h1,by omega,by omega⟩
theorem s_7(ds:List D):Dp [.lst ds]=.ok (.sh (.int ds.length)):=rfl
theorem co_5{x:Str}(h:x.length<=16777216):Dp [.str x]=.ok (.sh (.int x.length)):=if_pos h
theorem co_6(i j:Int):maxD [.int i,.int j]=.ok (.sh (.int (max i j))):=by
 show R.ok (W.sh (D.int (if j > i then j else i)))=_;rw [show(if j > i then j else i)=max i j by rw [Int.max_def];split <;> split <;> omega]
theorem dl_7(i j:Int):minD [.int i,.int j]=.ok (.sh (.int (min i j))):=by
 show R.ok (W.sh (D.int (if j < i then j else i)))=_;rw [show(if j < i then j else i)=min i j by rw [Int.min_def];split <;> split <;> omega]
theorem r_0{ds:List D}{i:Int}{d:D}(h:atI ds i=some d):Be (.lst ds) (.int i)=.ok (.sh d):=by unfold Be;simp only [h]
theorem cz_5{x:Str}{i:Int}{c:Nat}(hz:x.length<=16777216)(h:atI x.cps.toList i=some c):Be (.str x) (.int i)=.ok (.sh (.str ⟨#[c]⟩)):=by
 unfold Be;simp only [h,if_pos hz]
theorem bt_7{α:Type}{xs:List α}{i:Int}{x:α}(h0:0<=i)(h:xs[i.toNat]? =some x):atI xs i=some x:=by
 have hl:i.toNat < xs.length:=(List.getElem?_eq_some_iff.mp h).1;unfold atI ixN;rw [if_pos h0,if_pos (by omega)];exact h
theorem cg_2(fg:FG)(g:FS)(I:Nat->SE->Prop){n:Nat}{lo:Int}{Δ:SE}(h0:I 0 Δ)
  (step:∀k Δ,k < n->I k Δ->∃Δ1,fg (.int (lo + (k:Int))) Δ=.ok Δ1/\∃Δ2,(g Δ1=.nx Δ2\/g Δ1=.ct Δ2)/\I (k + 1) Δ2):∃Δ',Dw fg g (p_5 lo n) Δ=.nx Δ'/\I n Δ':=by
 have all:∀(m k:Nat) (Δ:SE),k + m=n->I k Δ->∃Δ',Dw fg g ((List.range' k m).map λ(j:Nat)=>D.int (lo + (j:Int))) Δ=.nx Δ'/\I n Δ':=by
  intro m
  induction m with
  |zero=>intro k Δ e h;exact⟨Δ,rfl,by rw [<-e];exact h⟩
  |succ m ih=>
   intro k Δ e h;obtain⟨Δ1,e1,Δ2,e2,h2⟩:=step k Δ (by omega) h;obtain⟨Δ',e3,h3⟩:=ih (k + 1) Δ2 (by omega) h2;refine⟨Δ', ?_,h3⟩;rw [List.range'_succ,List.map_cons];show(match fg (.int (lo + (k:Int))) Δ with
    | .ok Δ1=>(match g Δ1 with
     | .nx Δ2=>Dw fg g _ Δ2
     | .ct Δ2=>Dw fg g _ Δ2
     | .bk Δ2=> .nx Δ2
     |r=>r)
    | .ex _=> .no
    | .no=> .no)=_
   rw [e1];rcases e2 with e2|e2
   ·simp only [e2];exact e3
   ·simp only [e2];exact e3
 obtain⟨Δ',e,h⟩:=all n 0 Δ (by omega) h0;refine⟨Δ', ?_,h⟩;unfold p_5;rw [List.range_eq_range'];exact e
theorem q_0(fg:FG)(g:FS)(I:Nat->SE->Prop){ds:List D}{Δ:SE}(h0:I 0 Δ)
  (step:∀k d Δ,ds[k]? =some d->I k Δ->∃Δ1,fg d Δ=.ok Δ1/\∃Δ2,(g Δ1=.nx Δ2\/g Δ1=.ct Δ2)/\I (k + 1) Δ2):∃Δ',Dw fg g ds Δ=.nx Δ'/\I ds.length Δ':=by
 have all:∀(m k:Nat) (Δ:SE),k + m=ds.length->I k Δ->∃Δ',Dw fg g (ds.drop k) Δ=.nx Δ'/\I ds.length Δ':=by
  intro m
  induction m with
  |zero=>
   intro k Δ e h;rw [List.drop_eq_nil_of_le (by omega)];exact⟨Δ,rfl,by rw [<-e];exact h⟩
  |succ m ih=>
   intro k Δ e h;obtain⟨d,d1,d2⟩:=x_5 (l:=ds) (i:=k) (by omega);obtain⟨Δ1,e1,Δ2,e2,h2⟩:=step k d Δ d1 h;obtain⟨Δ',e3,h3⟩:=ih (k + 1) Δ2 (by omega) h2;refine⟨Δ', ?_,h3⟩;rw [d2];show(match fg d Δ with
    | .ok Δ1=>(match g Δ1 with
     | .nx Δ2=>Dw fg g (ds.drop (k + 1)) Δ2
     | .ct Δ2=>Dw fg g (ds.drop (k + 1)) Δ2
     | .bk Δ2=> .nx Δ2
     |r=>r)
    | .ex _=> .no
    | .no=> .no)=_
   rw [e1];rcases e2 with e2|e2
   ·simp only [e2];exact e3
   ·simp only [e2];exact e3
 have:=all ds.length 0 Δ (by omega) h0
 rwa [List.drop_zero] at this
theorem cg_3{fg:Eu}{p:FT}{f:FE}{δ:DE}{F:Int->D}:∀(n:Nat) (lo:Int),(∀k:Nat,k < n->∃δ1 w,fg (.int (lo + (k:Int))) δ=.ok δ1/\p δ1=.ok true/\f δ1=.ok w/\w.d=F (lo + (k:Int)))->
  m_6 fg p f δ (p_5 lo n)=.ok ((List.range n).map λ(k:Nat)=>F (lo + (k:Int))):=by
 have all:∀(es:List Nat) (lo:Int),(∀k∈es,∃δ1 w,fg (.int (lo + ((k:Nat):Int))) δ=.ok δ1/\p δ1=.ok true/\f δ1=.ok w/\w.d=F (lo + (k:Int)))->
   m_6 fg p f δ (es.map λ(k:Nat)=>D.int (lo + (k:Int)))=.ok (es.map λ(k:Nat)=>F (lo + (k:Int))):=by
  intro es lo
  induction es with
  |nil=>intro _;rfl
  |cons k es ih=>
   intro h;obtain⟨δ1,w,e1,e2,e3,e4⟩:=h k List.mem_cons_self;have e5:=ih λj hj=>h j (List.mem_cons_of_mem _ hj);rw [List.map_cons,List.map_cons];show((fg (.int (lo + (k:Int))) δ).bind λ δ1=>(p δ1).bind λb=>if b=true then(f δ1).bind λw=>(m_6 fg p f δ _).bind λrs=> .ok (w.d::rs) else m_6 fg p f δ _)=_;rw [e1];simp only [R.bind_ok,e2,if_true,e3];rw [e5];simp only [R.bind_ok,e4]
 intro n lo h;exact all (List.range n) lo λk hk=>h k (List.mem_range.mp hk)
theorem be_6{j:Int}(h1: -4611686018427387903<=j)(h2:j < 4611686018427387904):rng1 [.int j]=.ok (p_5 0 j.toNat):=by
 have h:j.natAbs < 4611686018427387904:=by omega
 exact if_pos h
theorem o_2{m:Nat}{fi:FI}{fg:Eu}{p:FT}{f:FE}{δ:DE}{ds rs:List D}(h:fi δ=.ok ds)(hl:ds.length<=16777216)(hc:m_6 fg p f (δ ++ List.replicate m none) ds=.ok rs):Cc m fi fg p f δ=.ok (.ow (.lst rs)):=by
 unfold Cc;rw [h];simp only [R.bind_ok];rw [if_pos hl,hc];rfl
theorem dl_8(d:D):Sl.pub (.sh d)=some d:=rfl
theorem dl_9(d:D):Sl.pub (.ow d)=none:=rfl
theorem dm_0:Sl.pub .no=none:=rfl
theorem dm_1(d:D):Sl.any (.sh d)=some d:=rfl
theorem dm_2(d:D):Sl.any (.ow d)=some d:=rfl
theorem dm_3:Sl.any .no=none:=rfl
theorem cz_6(d:D):Sl.give (.sh d)=.sh d:=rfl
theorem cz_7(d:D):Sl.give (.ow d)=.sh d:=rfl
theorem cz_8:Sl.give .no=.no:=rfl
theorem Bk{g h:FS}{Δ Δ':SE}(e:g Δ=.nx Δ'):Ag g h Δ=h Δ':=by unfold Ag;rw [e]
theorem s_8{n:Nat}{g:FS}{ds:List D}{w:W}(e:g (Bd n ds)=.rt w):Ap n g ds=.ok w:=by unfold Ap;rw [e]
theorem m_2{fg:Eu}{p:FT}{f:FE}{δ:DE}(P:D->Bool)(F:D->D):∀(ds:List D),(∀d∈ds,∃δ1,fg d δ=.ok δ1/\p δ1=.ok (P d)/\(P d=true->∃w,f δ1=.ok w/\w.d=F d))->
  m_6 fg p f δ ds=.ok ((ds.filter P).map F)
 | [],_=>rfl
 |d::ds,h=>by
  obtain⟨δ1,e1,e2,e3⟩:=h d List.mem_cons_self;have ih:=m_2 P F ds λx hx=>h x (List.mem_cons_of_mem _ hx);show((fg d δ).bind λ δ1=>(p δ1).bind λb=>if b=true then(f δ1).bind λw=>(m_6 fg p f δ ds).bind λrs=> .ok (w.d::rs) else m_6 fg p f δ ds)=_;rw [e1];simp only [R.bind_ok,e2];cases hP:P d with
  |true=>
   obtain⟨w,e4,e5⟩:=e3 hP;rw [if_pos rfl,e4,ih];simp only [R.bind_ok,e5,List.filter_cons_of_pos hP,List.map_cons]
  |false=>
   rw [if_neg Bool.false_ne_true,ih,List.filter_cons_of_neg (by rw [hP];exact Bool.false_ne_true)]
theorem co_7{fg:Eu}{f:FE}{δ:DE}(F:D->D)(ds:List D)(h:∀d∈ds,∃δ1 w,fg d δ=.ok δ1/\f δ1=.ok w/\w.d=F d):
  m_6 fg (λ_=> .ok true) f δ ds=.ok (ds.map F):=by
 have:=m_2 (fg:=fg) (p:=λ_=> .ok true) (f:=f) (δ:=δ) (λ_=>true) F ds λd hd=>by
  obtain⟨δ1,w,e1,e2,e3⟩:=h d hd;exact⟨δ1,e1,rfl,λ_=>⟨w,e2,e3⟩⟩
 rw [this,List.filter_eq_self.mpr λ_ _=>rfl]
theorem bk_6:Cq "int" .non=some false:=rfl
theorem bt_8(b:Bool):Cq "int" (.bl b)=some true:=rfl
theorem bk_7(i:Int):Cq "int" (.int i)=some true:=rfl
theorem bk_8(x:Str):Cq "int" (.str x)=some false:=rfl
theorem bk_9(l:List D):Cq "int" (.lst l)=some false:=rfl
theorem bl_0(l:List D):Cq "int" (.tup l)=some false:=rfl
theorem be_7:Cq "bool" .non=some false:=rfl
theorem bl_1(b:Bool):Cq "bool" (.bl b)=some true:=rfl
theorem be_8(i:Int):Cq "bool" (.int i)=some false:=rfl
theorem be_9(x:Str):Cq "bool" (.str x)=some false:=rfl
theorem bf_0(l:List D):Cq "bool" (.lst l)=some false:=rfl
theorem bf_1(l:List D):Cq "bool" (.tup l)=some false:=rfl
theorem bl_2:Cq "str" .non=some false:=rfl
theorem bt_9(b:Bool):Cq "str" (.bl b)=some false:=rfl
theorem bl_3(i:Int):Cq "str" (.int i)=some false:=rfl
theorem bl_4(x:Str):Cq "str" (.str x)=some true:=rfl
theorem bl_5(l:List D):Cq "str" (.lst l)=some false:=rfl
theorem bl_6(l:List D):Cq "str" (.tup l)=some false:=rfl
theorem bf_2:Cq "list" .non=some false:=rfl
theorem bl_7(b:Bool):Cq "list" (.bl b)=some false:=rfl
theorem bf_3(i:Int):Cq "list" (.int i)=some false:=rfl
theorem bf_4(x:Str):Cq "list" (.str x)=some false:=rfl
theorem bf_5(l:List D):Cq "list" (.lst l)=some true:=rfl
theorem bf_6(l:List D):Cq "list" (.tup l)=some false:=rfl
theorem aw_9:Cq "tuple" .non=some false:=rfl
theorem bf_7(b:Bool):Cq "tuple" (.bl b)=some false:=rfl
theorem ax_0(i:Int):Cq "tuple" (.int i)=some false:=rfl
theorem ax_1(x:Str):Cq "tuple" (.str x)=some false:=rfl
theorem ax_2(l:List D):Cq "tuple" (.lst l)=some false:=rfl
theorem ax_3(l:List D):Cq "tuple" (.tup l)=some true:=rfl
end L3
namespace L3
open PySem PySem.Spec PyProof.Rows L2
variable{K:Frag}{fd:FuncData}{mg:Str->Option Value}{us:List Value}{base:Heap}{H:Hp}{X:Cx}{pos:Pos}{v:V}
def bf_8:List Value->Bool
 | .ref _::r=>bf_8 r
 |l=>l == [.type "ValueError",.type "Exception",.type "BaseException",.type "object"]
theorem ab_7(self:Value):∀{l:List Value},bf_8 l=true->refuseLoop self "__setattr__" l=pure ()
 | [],e=>by cases e
 | .ref c::r,e=>by rw [refuseLoop_ref];exact ab_7 self e
 | .type n::r,e=>by
  have e':(Value.type n::r)= [.type "ValueError",.type "Exception",.type "BaseException",.type "object"]:=eq_of_beq e;rw [e'];exact PySem.F.store_ValueError.passes self
 | .none::r,e=>by cases(eq_of_beq (show((Value.none::r) == [.type "ValueError",.type "Exception",.type "BaseException",.type "object"])=true from e))
 | .bool b::r,e=>by cases(eq_of_beq (show((Value.bool b::r) == [.type "ValueError",.type "Exception",.type "BaseException",.type "object"])=true from e))
 | .int b t::r,e=>by cases(eq_of_beq (show((Value.int b t::r) == [.type "ValueError",.type "Exception",.type "BaseException",.type "object"])=true from e))
 | .str b t::r,e=>by cases(eq_of_beq (show((Value.str b t::r) == [.type "ValueError",.type "Exception",.type "BaseException",.type "object"])=true from e))
 | .builtin b::r,e=>by cases(eq_of_beq (show((Value.builtin b::r) == [.type "ValueError",.type "Exception",.type "BaseException",.type "object"])=true from e))
theorem as_0:∀{l:List Value},bf_8 l=true->l.contains (.type "object")=true/\l.isEmpty=false
 | [],e=>by cases e
 | .ref c::r,e=>⟨by rw [List.contains_cons,(as_0 (l:=r) e).1,Bool.or_true],rfl⟩
 | .type n::r,e=>by
  have e':(Value.type n::r)= [.type "ValueError",.type "Exception",.type "BaseException",.type "object"]:=eq_of_beq e;rw [e'];exact⟨by decide,rfl⟩
 | .none::r,e=>by cases(eq_of_beq (show((Value.none::r) == [.type "ValueError",.type "Exception",.type "BaseException",.type "object"])=true from e))
 | .bool b::r,e=>by cases(eq_of_beq (show((Value.bool b::r) == [.type "ValueError",.type "Exception",.type "BaseException",.type "object"])=true from e))
 | .int b t::r,e=>by cases(eq_of_beq (show((Value.int b t::r) == [.type "ValueError",.type "Exception",.type "BaseException",.type "object"])=true from e))
 | .str b t::r,e=>by cases(eq_of_beq (show((Value.str b t::r) == [.type "ValueError",.type "Exception",.type "BaseException",.type "object"])=true from e))
 | .builtin b::r,e=>by cases(eq_of_beq (show((Value.builtin b::r) == [.type "ValueError",.type "Exception",.type "BaseException",.type "object"])=true from e))
structure XCls(K:Frag)(C:Addr):Prop where
 sa:findIn K (.ref C) "__setattr__" =some (some (.builtin "object.__setattr__"))
 over:(clsIn K C).any (λcd=>bf_8 cd.mro && cd.hasDict)=true
section
variable{prog:Program}{w:World}{A:Around}{E:Value->Shared->Prop}{s:Shared}{K:Frag}{x C:Addr}{R:Result->Shared->Prop}
theorem cz_9{ox:Obj}{od:Option Obj}{name:Str}{tk:Tok}{v:Value}(X:K.In s.heap)(I:InstAt s.heap x ox C od)(xc:XCls K C)(ha:findIn K (.ref C) name=some none)
  (h:wpAny (model prog w) A.in1 (Builtin.ObjectAttr.storeInOwnDict (.ref x) (.ref C) (.str name tk) name v false)
   (λfin s'=>match fin with| .done f=>R (.ok f) s'| .again c'=>c'.quiet=true/\codeAny (model prog w) A c' R s') (λe s'=>R (.error e) s') s):
  codeAny (model prog w) A (.call (.builtin "object.__setattr__") ⟨[.ref x,.str name tk,v],[]⟩) R s:=by
 have SF:=PySem.F.store_object;obtain⟨cd,hc,ho⟩:=any_some xc.over;rw [Bool.and_eq_true] at ho;obtain⟨hs1,hs2⟩:=as_0 ho.1;have sub:Looks (model prog w) s.heap (isInstance (.ref x) (.type "object")) true:=I.type.andThen (looks_mroIn X (by unfold mroIn;rw [hc,Option.bind_some,if_neg (by rw [hs2];decide),hs1]));refine codeAny_call_builtin SF.slot.plain SF.entry (@check_slot (model prog w) _ _ s "object.__setattr__" "object" "__setattr__" (.ref x) [.str name tk,v] [] _ SF.kind SF.split sub (SF.args (.ref x) (.str name tk) v) ?_);have hm:Looks (model prog w) s.heap (mroOf (.ref C)) cd.mro:=(looks_clsIn X hc).andThen .now;rw [osa_eq,refuse_eq];refine wpAny_bind (wpAny_bind (I.type.here (wpAny_bind (hm.here ?_))));rw [ab_7 _ ho.1];refine wpAny_pure (wpAny_bind (I.type.here (wpAny_bind ((looks_findIn X ha).here (wpAny_bind (wpAny_pure (a:=(none:Option Value)) ?_))))));exact h
theorem cg_4{D:Addr}{name:Str}{tk:Tok}{v:Value}{Q:PySem.Fin->Shared->Prop}(hD:s.heap.get? D=some {cls:=.type "dict",data:=.dict #[]})
  (h:∀h' tk,h'.Ns1 D (λy=>if y=name then some v else none)->Heap.SameBut D s.heap h'->Q (.done (.ret .none)) {s with heap:=h',toks:=tk}):wpAny (model prog w) A (Builtin.ObjectAttr.storeInDict D (.str name tk) name v) Q E s:=by
 have cw:s.heap.Ns D λ_=>none:=⟨_, #[],_,hD,rfl,λ_ he=>(Array.not_mem_empty _ he).elim,λ_=>rfl⟩;unfold Builtin.ObjectAttr.storeInDict Builtin.ObjectAttr.newKeyGuard
 wp_walk using wpAny_nsSet1 (Heap.Ns1.of_empty cw)
 intro h' n sb;obtain⟨o,es,ep,at1,is1,few⟩:=n.count (.cons name v .nil);have le:es.size<=sizeLine + 1:=Nat.le_trans few (by simp [sizeLine_eq]);exact wpAny_bind (wpAny_lookBehind at1 (is1▸pastItsLine_dict le) (wpAny_pure (h h' _ n sb)))
theorem bl_8{name:Str}{v:Value}{us:Array Value}{Q:Unit->Shared->Prop}(X:K.In s.heap)(hx:s.heap.get? x=some ⟨.ref C,none,.fields us, #[]⟩)(xc:XCls K C)(ha:findIn K (.ref C) name=some none)
  (h:∀h' tk,h'.get? x=some ⟨.ref C,some s.heap.objs.size,.fields us, #[]⟩->h'.Ns1 s.heap.objs.size (λy=>if y=name then some v else none)->(∀b o,b≠x->s.heap.get? b=some o->h'.get? b=some o)->Q () {s with heap:=h',toks:=tk}):
  wpAny (model prog w) A (setAttr (.ref x) name v) Q E s:=by
 have I:InstAt s.heap x ⟨.ref C,none,.fields us, #[]⟩ C none:=⟨hx,rfl,rfl,True.intro⟩;refine set_plain X I xc.sa (cz_9 (s:={s with toks:=s.toks + 1}) X I xc ha ?_);obtain⟨cd,hc,hd'⟩:=any_some xc.over;rw [Bool.and_eq_true] at hd';refine wpAny_bind (wpAny_pure (wpAny_bind (wpAny_bind (wpAny_loadPart (s:={s with toks:=s.toks + 1}) hx (wpAny_bind (Looks.here (s:={s with toks:=s.toks + 1}) (looks_clsIn X hc) ?_))))));rw [hd'.2]
 
 have Cn:x≠s.heap.objs.size:=Nat.ne_of_lt (Heap.lt_size hx);have old:∀b o,b≠x->s.heap.get? b=some o->((s.heap.push {cls:=.type "dict",data:=.dict #[]}).update x λo=>{o with dict:=some s.heap.objs.size}).get? b=some o:=λb o hb e=>by
  rw [Heap.get?_update_ne _ _ _ _ hb];exact Heap.get?_push_of_some _ e
 have itself:=Heap.get?_update_self (λo:Obj=>{o with dict:=some s.heap.objs.size}) (Heap.get?_push_of_some {cls:=.type "dict",data:=.dict #[]} hx) rfl;have isD:((s.heap.push {cls:=.type "dict",data:=.dict #[]}).update x λo=>{o with dict:=some s.heap.objs.size}).get? s.heap.objs.size=some {cls:=.type "dict",data:=.dict #[]}:=by
  rw [Heap.get?_update_ne _ _ _ _ (Ne.symm Cn)];exact Heap.get?_push_size _ rfl
 refine wpAny_bind (wpAny_alloc' (wpAny_bind (wpAny_update' (Heap.get?_push_of_some _ hx) (wpAny_pure (cg_4 isD λh' tk n sb=>h h' tk ?_ n λb o hb e=> ?_)))))
 ·rw [sb.2 x Cn];exact itself
 ·rw [sb.2 b (Nat.ne_of_lt (Heap.lt_size e))];exact old b o hb e
end
def XE(a:Addr)(o:Obj):HO:=.ext λh=>h.get? a=some o
theorem XE.ok{P:Program}{w:World}{h:Heap}{a:Addr}{o:Obj}(e:h.get? a=some o):ObjOk P w H h a (XE a o):=⟨e,⟨o,e⟩,λ_ _ p k=>k _ p⟩
theorem XE.get{P:Program}{w:World}{h:Heap}{a:Addr}{o:Obj}(x:HOk P w H h)(e:H a=some (XE a o)):h.get? a=some o:=(x a _ e).1
theorem XO.ok{P:Program}{w:World}{h:Heap}{a C:Addr}{dx:Option Addr}{us:Array Value}{sl:Array (Option Value)}(e:h.get? a=some ⟨.ref C,dx,.fields us,sl⟩)(c2:us[2]? =some .none):ObjOk P w H h a (XO a C dx):=
 ⟨⟨us,sl,e,c2⟩,⟨_,e⟩,λ_ _ ⟨us,sl,p,c⟩ k=>⟨us,sl,k _ p,c⟩⟩
section
variable{X:Cx}{zd:List (Addr×Obj)}{σ:Sg}{H:Hp}{s:Shared}
theorem Inv.excSet{a:Addr}{o0 o1:Obj}{h':Heap}{t':Nat}{fs:List (Str×V)}{mA:Str->Option Value}(I:Inv X zd σ H s)(e:H a=some (XE a o0))(hx:h'.get? a=some o1)(hn:h'.Ns1 s.heap.objs.size mA)(hr:∀f,RelO (fs.lookup f) (mA f))
  (k:∀b o,b≠a->s.heap.get? b=some o->h'.get? b=some o):Inv X zd σ (upd (upd H s.heap.objs.size (.xd fs)) a (XE a o1)) {s with heap:=h',toks:=t'}:=by
 have hf:H s.heap.objs.size=none:=I.hok.fresh (Nat.le_refl _);have other:∀b u,H b=some u->b≠a->(upd (upd H s.heap.objs.size (.xd fs)) a (XE a o1)) b=some u:=λb u q n=>by
  rw [An n,An (Ef q hf)];exact q
 refine I.un (h':=h') ⟨λb o q n _ _=>k b o (λz=>by subst z;rw [e] at n;cases n) q,λb o q n _ _=>⟨o.slots,k b o (λz=>by subst z;rw [e] at n;cases n) q⟩,λb o q n _=> ?_,λb o q _=> ?_,λb xs q=> ?_,λb o u q=> ?_,λb ps q=> ?_⟩ λb u q=> ?_
 ·rw [An (λz=>by subst z;rw [e] at n;cases n),An (Nat.ne_of_lt (Heap.lt_size q))];exact n
 ·by_cases z:b=a
  ·subst z;exact⟨_,hx⟩
  ·exact⟨_,k b o z q⟩
 ·exact other b _ q λz=>by subst z;rw [e] at q;cases q
 ·exact other b _ q λz=>by subst z;rw [e] at q;cases q
 ·exact⟨#[],by rw [other b _ q λz=>by subst z;rw [e] at q;cases q];simp⟩
 ·by_cases z:b=a
  ·subst z;rw [Ba] at q;cases q;exact XE.ok hx
  ·rw [An z] at q
   by_cases z2:b=s.heap.objs.size
   ·subst z2;rw [Ba] at q;cases q;exact⟨mA,hn,hr⟩
   ·rw [An z2] at q;refine(I.hok b u q).stay (λc v hc z3=>k c v ?_ z3) (λc z3=>other c _ z3 λz4=> ?_) λc xs z3=>other c _ z3 λz4=> ?_
    ·rcases hc with rfl|hc
     ·exact z
     ·exact λz4=>by subst z4;rw [e] at hc;cases hc
    ·subst z4;rw [e] at z3;cases z3
    ·subst z4;rw [e] at z3;cases z3
theorem Inv.forget{a:Addr}{φ:Heap->Prop}(I:Inv X zd σ (upd H a (.ext φ)) s)(hn:H a=none):Inv X zd σ H s:=by
 have sub:∀b u,H b=some u->upd H a (.ext φ) b=some u:=λb u e=>by rw [An (Ef e hn)];exact e
 have nf:∀b,upd H a (.ext φ) b=none->H b=none:=λb e=>by
  by_cases z:b=a
  ·subst z;exact hn
  ·rw [An z] at e;exact e
 have bk:∀b u,upd H a (.ext φ) b=some u->(∀ψ,u≠ .ext ψ)->H b=some u:=λb u e n=>by
  by_cases z:b=a
  ·subst z;rw [Ba] at e;cases e;exact absurd rfl (n φ)
  ·rw [An z] at e;exact e
 have B:=I.base;refine⟨I.ok,I.os,I.bare,⟨B.keep,B.slot,λb u q n x=>nf b (B.free b u q n x),B.there,λb xs q=>bk _ _ (B.tups b xs q) (λ_ z=>nomatch z),λb u v q=>bk _ _ (B.frzs b u v q) (λ_ z=>nomatch z),λb ps q=> ?_⟩,I.loc,I.cell,nf _ I.free,λx c e=>nf _ (I.freeC x c e),λp hp=> ?_,λb u e=> ?_,I.len⟩
 ·obtain⟨more,z⟩:=B.tbls b ps q;exact⟨more,bk _ _ z (λ_ z=>nomatch z)⟩
 ·obtain⟨p1,p2,p3⟩:=I.pin p hp;exact⟨p1,nf _ p2,p3⟩
 ·exact(I.hok b u (sub b u e)).stay (λ_ _ _ q=>q) (λc q=>bk _ _ q (λ_ z=>nomatch z)) (λc xs q=>bk _ _ q (λ_ z=>nomatch z))
end
def ai_6(C:Addr)(f:Str):Sp:=λvs H Q _=>∃a v us,vs= [.ref a,v]/\H a=some (XE a ⟨.ref C,none,.fields us, #[]⟩)/\∀d,H d=none->d≠a->Q .non (upd (upd H d (.xd [(f,v)])) a (XE a ⟨.ref C,some d,.fields us, #[]⟩))
section
variable{X:Cx}{C:Addr}{f:Str}{pos pos' p1 p2:Pos}{x y:Str}
def df_5(C:Addr)(f:Str):TS:=λD σ H=>∃a v us,σ[0]? =some (some (.ref a))/\σ[1]? =some (some v)/\H a=some (XE a ⟨.ref C,none,.fields us, #[]⟩)/\∀d,H d=none->d≠a->D.nx σ (upd (upd H d (.xd [(f,v)])) a (XE a ⟨.ref C,some d,.fields us, #[]⟩))
theorem bz_5(xc:XCls X.K C)(hn:findIn X.K (.ref C) f=some none)(ho:PE X (.Name x p1) (tVar 0))(hv:PE X (.Name y p2) (tVar 1))(hs:swapsWith (.Name y p2) (some (.Attribute (.Name x p1) f pos')) pos.line X.env=pure false:=by rfl):
  PS X (.Assign [.Attribute (.Name x p1) f pos'] (.Name y p2) pos) (df_5 C f):=by
 intro zd s σ H D I h;obtain⟨a,v,us,e0,e1,ha,q⟩:=h;refine plainObj_wpAny_Assign_Attribute (Aw (hv zd s σ H (λy H1=>y=v/\H1=H) I ⟨v,e1,rfl,rfl⟩) λu s1 ⟨y,H1,I1,ry,ey,eH⟩=>Aw (ho zd s1 σ H1 (λy H2=>y=.ref a/\H2=H) I1 ⟨.ref a,e0,rfl,eH⟩) λov s2 ⟨x,H2,I2,rx,ex,eH2⟩=> ?_) hs;subst ey ex eH eH2;obtain rfl:ov=Value.ref a:=rx;refine bl_8 I2.kIn (XE.get I2.hok ha) xc hn λh' tk g1 g2 g3=> ?_;refine⟨σ,_,Inv.excSet I2 (t':=tk) (fs:=[(f,y)]) ha g1 g2 (λg=> ?_) g3,q _ (I2.hok.fresh (Nat.le_refl _)) ?_⟩
 ·show RelO ([(f,y)].lookup g) (if g=f then some u else none)
  by_cases z:g=f
  ·subst z;rw [if_pos rfl];simp only [List.lookup_cons,beq_self_eq_true];exact ry
  ·rw [if_neg z];have zb:(g ==f)=false:=by simpa using z
   simp only [List.lookup_cons,zb,List.lookup_nil]
   trivial
 ·exact Nat.ne_of_gt (Heap.lt_size (XE.get I2.hok ha))
end
abbrev bmVE:List Value:=[.type "ValueError",.type "Exception",.type "BaseException",.type "object"]
def l_2(es:Array DictEntry):Bool:=es.toList.all λe=>match e.key with| .str _ _=>true|_=>false
theorem bu_0{es:Array DictEntry}(h:l_2 es=true):StrKeys es:=λe he=>by
 have q:=List.all_eq_true.mp h e (Array.mem_toList_iff.mpr he);revert q;cases hk:e.key with
 |str n t=>intro _;exact⟨n,t,rfl⟩
 |_=>intro q;cases q
theorem bz_6{N:Addr}{oc:Value}{od:Option Addr}{es:Array DictEntry}{ep:Nat}{sl:Array (Option Value)}(l:K.lookup N=some ⟨oc,od,.dict es ep,sl⟩)(k:l_2 es=true){h:Heap}(X:K.In h):h.Ns N (nsFind es):=
 ⟨_,es,ep,X _ _ l,rfl,bu_0 k,λ_=>rfl⟩
def XMk(K:Frag)(C fI:Addr):Prop:=∃(nm q:Str) (N:Addr) (bs bm:List Value) (sn:List Str) (sub:List Value) (ab:Bool) (col:Option Bool) (dd:Option Addr) (k0 k1 k2 k3 k5:Option Value) (mN:Str->Option Value),
 K.lookup C=some (excClassObj nm q C N bs bm true sn sub ab col dd k0 k1 k2 k3 k5 "ValueError.__new__")/\(∀h:Heap,K.In h->OwnTail h bmVE bm)/\(∀h:Heap,K.In h->h.Ns N mN)/\mN "__init__" =some (.ref fI)
theorem dm_4{C fI N L:Addr}{nm q:Str}{bs:List Value}{sn:List Str}{sub:List Value}{ab:Bool}{col:Option Bool}{dd:Option Addr}{k0 k1 k2 k3 k5:Option Value}{oc c0 oL:Value}{od ddL odL:Option Addr}{es esL:Array DictEntry}{ep epL:Nat}{sl sl0 slL:Array (Option Value)}{cd:ClassData}
  (lc:K.lookup C=some (excClassObj nm q C N bs (.ref L::bmVE) true sn sub ab col dd k0 k1 k2 k3 k5 "ValueError.__new__")) (ln:K.lookup N=some ⟨oc,od,.dict es ep,sl⟩) (kn:l_2 es=true) (hi:nsFind es "__init__" =some (.ref fI))
  (ll:K.lookup L=some ⟨c0,ddL,.cls cd,sl0⟩) (lm:K.lookup cd.ns=some ⟨oL,odL,.dict esL epL,slL⟩) (km:l_2 esL=true) (hL:nsFind esL "__init__" =none):XMk K C fI:=
 ⟨nm,q,N,bs,_,sn,sub,ab,col,dd,k0,k1,k2,k3,k5,nsFind es,lc,λh X=> .own (X _ _ ll) (bz_6 lm km X) hL .base,λh X=>bz_6 ln kn X,hi⟩
theorem da_0{C N L:Addr}{nm q:Str}{bs:List Value}{sn:List Str}{sub:List Value}{ab:Bool}{col:Option Bool}{dd:Option Addr}{k0 k1 k2 k3 k5:Option Value}
  (lc:K.lookup C=some (excClassObj nm q C N bs (.ref L::bmVE) true sn sub ab col dd k0 k1 k2 k3 k5 "ValueError.__new__")) (sa:findIn K (.ref C) "__setattr__" =some (some (.builtin "object.__setattr__"))):XCls K C:=
 ⟨sa,by unfold clsIn;rw [lc];rfl⟩
theorem bz_7{c:Bool}{P:Program}{w:World}{x qual sf at_ fl:Str}{st:Stmt}{f C:Addr}{k:Nat}(F:Fun K x qual st f fd)(S:FnScope [sf,at_] [sf,at_] (Ci st))
  (zj:∀(zq:Value) (A:Around) (outer:List Env) (s:Shared) (H:Hp) (E:XK),PSs (cxN c P w K mg base [sf,at_] qual (Ci st) f zq A outer s H E) (Fk st) (df_5 C fl)):FnX P w K mg base c (k + 1) f fd [sf,at_] (ai_6 C fl):=by
 refine Fun.okX F S (λvs H Q E h=> ?_) λzq A outer s H vs Q E hr h=>⟨_,zj zq A outer s H E, ?_⟩
 ·obtain⟨a,v,us,rfl,_⟩:=h;rfl
 ·obtain⟨a,v,us,rfl,ha,q⟩:=h;exact⟨a,v,us,rfl,rfl,ha,q⟩
theorem ai_7{h:Heap}:∀{bm:List Value},OwnTail h bmVE bm->bm.contains (.type "BaseException")=true
 |_,.base=>by decide
 |_,.own _ _ _ t=>by rw [List.contains_cons,ai_7 t,Bool.or_true]
structure XC(P:Program)(w:World)(K:Frag)(mg:Str->Option Value)(base:Heap)(c:Str)(f:Str)(C:Addr):Prop where
 at_:ClsAt K c C
 glob:mg c=some (.ref C)
 kp:keepIn K (.ref C)=true
 xc:XCls K C
 made:∃(fI:Addr) (fd:FuncData) (ps:List Str) (oI:Obj),XMk K C fI/\K.lookup fI=some oI/\oI.cls=.type "function" /\FnX P w K mg base false 1 fI fd ps (ai_6 C f)/\Binds K fd ps []
section
variable{X:Cx}{zd:List (Addr×Obj)}{σ:Sg}{H:Hp}{s:Shared}{C:Addr}{c f:Str}
theorem co_8{e d:Addr}{o0 o1 x:HO}:upd (upd (upd H e o0) d x) e o1=upd (upd H d x) e o1:=by
 funext b
 unfold upd
 by_cases z:b=e
 ·rw [if_pos z,if_pos z]
 ·rw [if_neg z,if_neg z,if_neg z]
theorem cg_5{u:Value}{Q:Value->Shared->Prop}{E:Value->Shared->Prop}(M:XC X.prog X.w X.K X.mg X.base c f C)(hr:RoomC false 2 X.A)(I:Inv X zd σ H s)(r:RelV v u)
  (h:∀a d t s',H a=none->H d=none->d≠a->s.heap.objs.size<=a->Inv X zd σ (upd (upd H d (.xd [(f,v)])) a (XE a ⟨.ref C,some d,.fields #[.ref t,.none,.none,.none,.bool false,.none], #[]⟩)) s'->Q (.ref a) s'):
  wpAny (model X.prog X.w) X.A (call (.ref C) [u]) Q E s:=by
 obtain⟨fI,fd,ps,oI,⟨nm,q,N,bs,bm,sn,sub,ab,col,dd,k0,k1,k2,k3,k5,mN,lc,tl,hn,hi⟩,lI,hI,F,hb⟩:=M.made;have KX:=I.kIn;obtain⟨hh,g,dr,tk,os⟩:=s;refine cl_1 PySem.F.excBase_ValueError (tl hh KX) (KX _ _ lc) (hn hh KX) hi (KX _ _ lI) hI (λh' e me ze=> ?_) (by show 1<=sizeLine;rw [sizeLine_eq];omega);obtain⟨kk,new,t,et,_,_⟩:=me;have I2:Inv X zd σ (upd H e (XE e ⟨.ref C,none,.fields #[.ref t,.none,.none,.none,.bool false,.none], #[]⟩)) ⟨h',g,dr,tk,os⟩:=I.laid (h':=h') (t':=tk) kk ze (XE.ok et);have he:H e=none:=I.hok.fresh ze;have r2:Vals [.ref e,v] [.ref e,u]:=.cons rfl (.cons r .nil);have sp:ai_6 C f [.ref e,v] (upd H e (XE e ⟨.ref C,none,.fields #[.ref t,.none,.none,.none,.bool false,.none], #[]⟩)) (λy H2=>y=.non/\∃d,H d=none/\d≠e/\H2=upd (upd H d (.xd [(f,v)])) e (XE e ⟨.ref C,some d,.fields #[.ref t,.none,.none,.none,.bool false,.none], #[]⟩)) (λ_ _ _=>False):=
  ⟨e,v,_,rfl,Ba,λd hd ne=>⟨rfl,d,by rw [An ne] at hd;exact hd,ne,co_8⟩⟩
 have hl: [Value.ref e,u].length=ps.length:=F.len _ _ _ _ sp;have hb':=hb ⟨h',g,dr,tk,os⟩ [.ref e,u] I2.kIn (by rw [List.append_nil];exact hl);rw [List.append_nil] at hb';refine wpAny_call (codeAny_mono (F.run _ X.stack _ _ ⟨[.ref e,u],[]⟩ [.ref e,u] [.ref e,v] _ _ (hr.make C [u] []) (I2.env0.make C [u] []) hb' r2 sp) λr s' hq=> ?_);cases r with
 |error x=>
  obtain⟨a,C',dx,T,H',_,_,_,_,_,_,_,_,_,_,z⟩:=hq;exact z.elim
 |ok fl=>
  cases fl with
  |ret y=>
   obtain⟨v',H',I3,rv,ev,d,hd,ne,eH⟩:=I2.after hq;subst ev eH;exact⟨rv,h e d t s' he hd ne ze I3⟩
  |next=>exact False.elim hq
  |brk=>exact False.elim hq
  |cont=>exact False.elim hq
def Lk1(X:Cx)(EX:Ay):Prop:=∀(zd:List (Addr×Obj)) (σ:Sg) (H H':Hp) (s s':Shared) (a C:Addr) (dx:Option Addr) (o:Obj) (us:Array Value),Inv X zd σ H s->Inv X zd σ H' s'->s'.heap.get? a=some o->o.cls=.ref C->o.dict=dx->o.data=.fields us->us[1]? =some .none->us[2]? =some .none->
 H' a=none->s.heap.objs.size<=a->EXE X.K (EX σ) (.ref C) dx H'->X.xe (.ref a) s'
theorem ao_7{cm:Bool}{P:Program}{w:World}{N:List Str}{qual:Str}{scope:Scope}{f:Addr}{cd:Value}{A:Around}{outer:List Env}{s:Shared}{E:XK}:
  Lk1 (cxN cm P w K mg base N qual scope f cd A outer s H E) (λ_=>EXof K E):=λzd σ H H' s s' a C dx o us I I' he hc hx hd h1 c2 n1 z1 q=>bd_5 I I' he hc hx hd h1 c2 n1 z1 q.of
def ac_9(c f:Str)(js:List Nat)(fe:FE):FS:=λ Δ=>match fe (As (gsome js Δ)) with
 | .ok w=> .ex ⟨c,[f],[w.d]⟩ (gsome js Δ)
 | .ex x=> .ex x (gsome js Δ)
 | .no=> .no
theorem bm_0{EX:Ay}(js:List Nat){e:Expr}{fe:FE}{np zf pos:Pos}(M:XC X.prog X.w X.K X.mg X.base c f C)(hr:RoomC true 2 X.A)(l1:Lk1 X EX)(he:ED X EX e fe)(hg:Gl X c:=by rfl)(hdb:(c ==("__debug__" :Str))=false:=by decide)
  (hs:starEach [e] X.env=(false,eval e X.env)::starEach [] X.env:=by rfl) (hpl:(backTo zf (starEach [] X.env)).any (·.1)=false:=by rfl):
  SD X EX (.Raise (some (.Call (.Name c np) [e] [] zf)) none pos) (ac_9 c f js fe):=by
 intro zd s σ H D I q;obtain⟨H0,G0,G,Δ,O,E,q⟩:=q;obtain⟨G',O',sg,E'⟩:=E.gsome js;obtain⟨fI,fd,ps,oI,⟨nm,qn,N,bs,bm,sn,sub,ab,col,dd,k0,k1,k2,k3,k5,mN,lc,tl,hn,hi⟩,lI,hI,F,hb⟩:=M.made;have hB:bm.contains (.type "BaseException")=true:=ai_7 (tl s.heap I.kIn);rw [arm_exec_Raise];have tD0:tD X.K EX fe σ H λv H1=>∃v' w G1,[v]= [v']/\fe (As (gsome js Δ))=.ok w/\Step G' H G1 H1/\Has X.K G1 v' w.d:=by
  refine⟨G',As (gsome js Δ),E'.st.gh,E'.gsh, ?_⟩;unfold ac_9 at q;cases e1:fe (As (gsome js Δ)) with
  |ok w=>exact WP.intro λv G1 H1 st r=>⟨v,w,G1,rfl,rfl,st,r⟩
  |ex x=>rw [e1] at q;exact q σ G' H O' E' sg
  |no=>rw [e1] at q;exact q
 have mk:wpAny (model X.prog X.w) X.A (eval (.Call (.Name c np) [e] [] zf) X.env) (λv s1=>∃a t dx,v=.ref a/\s1.heap.get? C=some (excClassObj nm qn C N bs bm true sn sub ab col dd k0 k1 k2 k3 k5 "ValueError.__new__")/\
   s1.heap.get? a=some {cls:=.ref C,dict:=dx,data:=.fields #[.ref t,.none,.none,.none,.bool false,.none]}/\X.xe (.ref a) s1) X.xe s:=by
  refine wpAny_Call_Name_kw (p_6 I hg M.glob ?_ hdb);refine callWith_K (h₀:=X.base) I.ok.mod.kin M.kp (Aw (i_7 he o_9 hs zf zd s σ H (λvs H1=>∃v' w G1,vs= [v']/\fe (As (gsome js Δ))=.ok w/\Step G' H G1 H1/\Has X.K G1 v' w.d) I tD0) λus s1 ⟨vs,H1,I1,r,v,w,G1,ev,ew,st,hv⟩=>⟨I1.kIn, ?_⟩) hs hpl;subst ev;obtain⟨u,rfl,ru⟩:=r.one;refine cg_5 M hr.loose I1 ru λa d t s2 ha hd ne za I2=> ?_;have ga:=XE.get I2.hok Ba;refine⟨a,t,some d,rfl,I2.kIn _ _ lc,ga, ?_⟩;have I3:Inv X zd σ (upd H1 d (.xd [(f,v)])) s2:=Inv.forget I2 (by rw [An ne.symm];exact ha);refine l1 zd σ H1 _ s1 s2 a C (some d) _ _ I1 I3 ga rfl rfl rfl rfl rfl (by rw [An ne.symm];exact ha) za ?_;have st2:Step G1 H1 (upd G1 d (.xd [(f,v)])) (upd H1 d (.xd [(f,v)])):=Step.new st.gh hd _;refine⟨⟨c,[f],[w.d]⟩,upd G1 d (.xd [(f,v)]),st2.gh,.with_ M.at_ Ba rfl (.cons (hv.mono st2.gg) .nil), ?_⟩;unfold ac_9 at q;rw [ew] at q;exact q σ _ _ O' ((E'.grow st).grow st2) (sg.trans (st.gg.trans st2.gg))
 refine wpAny_bind (wpAny_standAt (az_0 hB (hr.hd rfl) (wpAny_bind (wpAny_mono mk (λv s3 h3=>wpAny_bind (wpAny_standAt (wpAny_pure h3))) λ_ _ x=>x))))
end
section
variable{X:Cx}{zd:List (Addr×Obj)}{σ:Sg}{H:Hp}{s:Shared}
theorem aa_2{M:Model}{A:Around}{E:Value->Shared->Prop}{i:Nat}{n:Str}{Q:Unit->Shared->Prop}(I:Inv X zd σ H s)(hN:X.N.Nodup)(hi:X.N[i]? =some n)(hk:X.env.scope.names.lookup n=some .local)
  (h:∀s',Inv X zd (σ.set i none) H s'->Q () s'):wpAny M A (do bindName X.env n .none;unbindBehindTheSuite X.env n pos) Q E s:=by
 obtain⟨m,hn,hl⟩:=id I.loc;have cj:(X.env.scope.kind == .class || (X.env.scope.kind == .module && X.env.locals != X.env.globals))=false:=by rw [I.ok.kind];rfl
 have hiσ:i < σ.length:=by rw [I.len];exact(List.getElem?_eq_some_iff.mp hi).1
 have cne:=I.cne;have tracked:∀{a:Addr} {h':Heap},(∃o,s.heap.get? a=some o/\H a=none)->Heap.SameBut a s.heap h'->HOk X.prog X.w H h':=λ{a h'} ha hs b ob e=>by
  obtain⟨_,_,aq⟩:=ha;refine(I.hok b ob e).stay (λc w' hc q=>(hs.2 c ?_).trans q) (λ_ q=>q) λ_ _ q=>q
  rintro rfl
  rcases hc with rfl|hc
  ·rw [aq] at e;cases e
  ·rw [aq] at hc;cases hc
 refine wpAny_nameGoes_keeps hk hn cj λh' v hn' hs=> ?_;obtain⟨oL,_,_,hoL,_⟩:=id hn;refine h _ ⟨I.ok,I.os,I.bare,⟨λb o e n hb hx=> ?_,λb o e n hb hx=> ?_,I.base.free,λb o e hx=> ?_,I.base.tups,I.base.frzs,I.base.tbls⟩,⟨_,hn',λj y v' e1 e2 e3=> ?_⟩,λy c e=> ?_,I.free,I.freeC,λp hp=> ?_,tracked ⟨oL,hoL,I.free⟩ hs,by simpa using I.len⟩
 ·exact(hs.2 b (Nat.ne_of_lt (Nat.lt_of_lt_of_le (Heap.lt_size e) I.ok.above))).trans (I.base.keep b o e n hb hx)
 ·obtain⟨sl,e1⟩:=I.base.slot b o e n hb hx;exact⟨sl,(hs.2 b (Nat.ne_of_lt (Nat.lt_of_lt_of_le (Heap.lt_size e) I.ok.above))).trans e1⟩
 ·obtain⟨o',e1⟩:=I.base.there b o e hx;exact⟨o',(hs.2 b (Nat.ne_of_lt (Nat.lt_of_lt_of_le (Heap.lt_size e) I.ok.above))).trans e1⟩
 ·by_cases hj:j=i
  ·subst hj;rw [List.getElem?_set_self hiσ] at e2;cases e2
  ·rw [List.getElem?_set_ne (Ne.symm hj)] at e2;obtain⟨u',r',q⟩:=hl j y v' e1 e2 e3;refine⟨u',r', ?_⟩;rcases q with⟨k,e⟩|⟨k,c,e,z⟩
   ·refine .inl ⟨k, ?_⟩;have:y≠n:=λe=>hj (ap_7 hN e1 (e▸hi));simp [this,e]
   ·exact .inr ⟨k,c,e,z.sameBut hs (cne y c e)⟩
 ·obtain⟨w',z⟩:=I.cell y c e;exact⟨w',z.sameBut hs (cne y c e)⟩
 ·obtain⟨e,n,ne,nf,d⟩:=I.pin p hp;exact⟨(hs.2 p.1 ne).trans e,n,ne,nf,d⟩
theorem Inv.speak{H':Hp}{s':Shared}{a C:Addr}{dx:Option Addr}{us:Array Value}{sl:Array (Option Value)}(I:Inv X zd σ H s)(I':Inv X zd σ H' s')(za:s.heap.objs.size<=a)(e:s'.heap.get? a=some ⟨.ref C,dx,.fields us,sl⟩)(c2:us[2]? =some .none)(hn:H' a=none):Inv X zd σ (upd H' a (.frz ⟨.ref C,dx,.fields us,sl⟩ (XO a C dx))) s':=by
 have B:=I'.base;have ns:∀b o,X.s₀.heap.get? b=some o->b≠a:=λb o q z=>absurd (Nat.lt_of_lt_of_le (Heap.lt_size q) (Nat.le_trans I.sz za)) (by rw [z];exact Nat.lt_irrefl _);have lt:∀b:Addr,b < s.heap.objs.size->b≠a:=λb h z=>absurd (Nat.lt_of_lt_of_le h za) (by rw [z];exact Nat.lt_irrefl _);have up:∀b u,H' b=some u->upd H' a (.frz ⟨.ref C,dx,.fields us,sl⟩ (XO a C dx)) b=some u:=λb u q=>by rw [An (Ef q hn)];exact q
 refine⟨I'.ok,I'.os,I'.bare,⟨B.keep,B.slot,λb o q n x=>by rw [An (ns b o q)];exact B.free b o q n x,B.there,λb xs q=>up _ _ (B.tups b xs q),λb o u q=>up _ _ (B.frzs b o u q),λb ps q=>let⟨m,z⟩:=B.tbls b ps q;⟨m,up _ _ z⟩⟩,I'.loc,I'.cell, ?_,λx c q=> ?_,λp hp=> ?_,λb u q=> ?_,I'.len⟩
 ·rw [An (lt _ I.lt)];exact I'.free
 ·obtain⟨v,hv⟩:=I.cell x c q;rw [An (lt _ hv.lt)];exact I'.freeC x c q
 ·obtain⟨p1,p2,p3⟩:=I'.pin p hp;exact⟨p1,by rw [An (lt _ (Heap.lt_size (I.pin p hp).1))];exact p2,p3⟩
 ·by_cases z:b=a
  ·subst z;rw [Ba] at q;cases q;exact⟨e,XO.ok e c2⟩
  ·rw [An z] at q;exact(I'.hok b u q).stay (λ_ _ _ q=>q) (λc q=>up _ _ q) λc xs q=>up _ _ q
end
def tryB(X:Cx)(zd:List (Addr×Obj))(W:Value->Shared->Prop):Cx:={X with pn:=X.pn ++ zd,xe:=W}
structure HX where
 a:Addr
 C:Addr
 dx:Option Addr
 us:Array Value
 sl:Array (Option Value)
 c2:us[2]? =some .none
def HX.ho(e:HX):HO:=.frz ⟨.ref e.C,e.dx,.fields e.us,e.sl⟩ (XO e.a e.C e.dx)
def hand(X:Cx)(e:HX):Cx:={X with A:=X.A.mark (some (.ref e.a)),calm:=false,xe:=λ_ _=>False,H₀:=upd X.H₀ e.a e.ho}
section
variable{X:Cx}{zd ao:List (Addr×Obj)}{σ:Sg}{H:Hp}{s:Shared}{W:Value->Shared->Prop}{e:HX}
theorem ok_tryB:(tryB X zd W).Ok↔X.Ok:=⟨λok=>⟨ok.mod,ok.kind,ok.glob,ok.blt,ok.above,ok.inj,ok.has,ok.cab,ok.hd,ok.frames,ok.stk,ok.exf,ok.bs,ok.bsz,ok.noex,ok.exfs,ok.funs,ok.frf⟩,
 λok=>⟨ok.mod,ok.kind,ok.glob,ok.blt,ok.above,ok.inj,ok.has,ok.cab,ok.hd,ok.frames,ok.stk,ok.exf,ok.bs,ok.bsz,ok.noex,ok.exfs,ok.funs,ok.frf⟩⟩
theorem Inv.toB(I:Inv X zd σ H s):Inv (tryB X zd W) [] σ H s:=⟨ok_tryB.mpr I.ok,I.os,I.bare,I.base,I.loc,I.cell,I.free,I.freeC,λp hp=>I.pin p (by have hp:p∈(X.pn ++ zd) ++ []:=hp;rwa [List.append_nil] at hp),I.hok,I.len⟩
theorem Inv.ofB(I:Inv (tryB X zd W) ao σ H s):Inv X zd σ H s:=⟨ok_tryB.mp I.ok,I.os,I.bare,I.base,I.loc,I.cell,I.free,I.freeC,λp hp=>I.pin p (List.mem_append_left _ hp),I.hok,I.len⟩
theorem SP.ofB{D:Ends}{f:Flow}(h:SP (tryB X zd W) ao D f s):SP X zd D f s:=by
 cases f with
 |next=>obtain⟨σ',H',I,q⟩:=h;exact⟨σ',H',Inv.ofB I,q⟩
 |brk=>obtain⟨σ',H',I,q⟩:=h;exact⟨σ',H',Inv.ofB I,q⟩
 |cont=>obtain⟨σ',H',I,q⟩:=h;exact⟨σ',H',Inv.ofB I,q⟩
 |ret u=>obtain⟨v,σ',H',I,r,q⟩:=h;exact⟨v,σ',H',Inv.ofB I,r,q⟩
theorem Un.hput{fs ex:List Addr}{H0 H':Hp}{h h':Heap}{a:Addr}{o:Obj}{u:HO}(U:Un fs ex H0 H' h h')(z:h.objs.size<=a)(q:H' a=some (.frz o u)):Un fs ex (upd H0 a (.frz o u)) H' h h':=by
 have nb:∀b o,h.get? b=some o->b≠a:=λb o g e=>absurd (Heap.lt_size g) (by rw [e];exact Nat.not_lt.mpr z);refine⟨λb o g n=>U.keep b o g (by rwa [An (nb b o g)] at n),λb o g n=>U.slot b o g (by rwa [An (nb b o g)] at n),λb o g n=>U.free b o g (by rwa [An (nb b o g)] at n),U.there,λb xs e=> ?_,λb ob v e=> ?_,λb ps e=> ?_⟩
 all_goals
  by_cases hb:b=a
  ·subst hb;rw [Ba] at e;cases e
   try exact q
  ·rw [An hb] at e
   first|exact U.tups b _ e|exact U.frzs b _ _ e|exact U.tbls b _ e
theorem Un.htake{fs ex:List Addr}{H0 H1 H':Hp}{h h1 h':Heap}{a:Addr}{v:HO}(U0:Un fs ex H0 H1 h h1)(n:H1 a=none)(U:Un fs ex (upd H0 a v) H' h h')(z:h.objs.size<=a):Un fs ex H0 H' h h':=by
 have nb:∀b o,h.get? b=some o->b≠a:=λb o g e=>absurd (Heap.lt_size g) (by rw [e];exact Nat.not_lt.mpr z);refine⟨λb o g q=>U.keep b o g (by rwa [An (nb b o g)]),λb o g q=>U.slot b o g (by rwa [An (nb b o g)]),λb o g q=>U.free b o g (by rwa [An (nb b o g)]),U.there,λb xs e=> ?_,λb ob v e=> ?_,λb ps e=> ?_⟩
 ·by_cases hb:b=a
  ·subst hb;have:=U0.tups b xs e;rw [n] at this;cases this
  ·exact U.tups b xs (by rwa [An hb])
 ·by_cases hb:b=a
  ·subst hb;have:=U0.frzs b ob v e;rw [n] at this;cases this
  ·exact U.frzs b ob v (by rwa [An hb])
 ·by_cases hb:b=a
  ·subst hb;obtain⟨m,q⟩:=U0.tbls b ps e;rw [n] at q;cases q
  ·exact U.tbls b ps (by rwa [An hb])
theorem Inv.toH(I:Inv X zd σ H s)(z:X.s₀.heap.objs.size<=e.a)(q:H e.a=some e.ho):Inv (hand X e) zd σ H s:=by
 have nb:∀b o,X.s₀.heap.get? b=some o->b≠e.a:=λb o g y=>absurd (Heap.lt_size g) (by rw [y];exact Nat.not_lt.mpr z);refine⟨⟨I.ok.mod,I.ok.kind,I.ok.glob,I.ok.blt,I.ok.above,I.ok.inj,I.ok.has,I.ok.cab,λz=>absurd z Bool.false_ne_true,I.ok.frames,I.ok.stk,I.ok.exf,λb o g=> ?_,I.ok.bsz,I.ok.noex,I.ok.exfs,I.ok.funs,λb hb=> ?_⟩,I.os,I.bare,Un.hput I.base z q,I.loc,I.cell,I.free,I.freeC,I.pin,I.hok,I.len⟩
 ·obtain⟨g1,g2⟩:=I.ok.bs b o g;exact⟨g1,(An (nb b o g1)).trans g2⟩
 ·obtain⟨_,u,hu,_⟩:=I.ok.funs.mem hb;exact(An (nb b u hu)).trans (I.ok.frf b hb)
theorem Inv.ofH{p0:List (Addr×Obj)}{σ0:Sg}{H0:Hp}{s0:Shared}(J:Inv X p0 σ0 H0 s0)(n:H0 e.a=none)(z:X.s₀.heap.objs.size<=e.a)(I:Inv (hand X e) zd σ H s):Inv X zd σ H s:=⟨J.ok,I.os,I.bare,Un.htake J.base n I.base z,I.loc,I.cell,I.free,I.freeC,I.pin,I.hok,I.len⟩
end
def df_6(i:Nat):Fl->Fl
 | .nx Δ=> .nx (Δ.set i .no)
 | .bk Δ=> .bk (Δ.set i .no)
 | .ct Δ=> .ct (Δ.set i .no)
 | .rt w=> .rt w
 |_=> .no
def Catches(K:Frag)(C2:Addr)(tb:List (Str×Bool)):Prop:=∀c b,tb.lookup c=some b->∀C,ClsAt K c C->exmOne K (.ref C) (.ref C2)=some b
theorem Ev.drop{H0:HB}{G0 G H:Hp}{σ:Sg}{Δ:SE}{O:OS}(E:Ev K H0 G0 G H σ Δ O)(i:Nat):Ev K H0 G0 G H (σ.set i none) (Δ.set i .no) O:=by
 refine⟨E.st,by rw [List.length_set,List.length_set];exact E.len,λj d e=> ?_,λj z d e zo=> ?_,E.out,E.dj,λj d e=> ?_,λj d e=> ?_⟩
 ·rcases Fd e with⟨rfl,q⟩|⟨n,q⟩
  ·cases q
  ·rw [List.getElem?_set_ne n];exact E.sh j d q
 ·rcases Fd e with⟨rfl,q⟩|⟨n,q⟩
  ·subst q;cases zo
  ·rw [List.getElem?_set_ne n];exact E.ow j z d q zo
 ·rcases Fd e with⟨rfl,q⟩|⟨n,q⟩
  ·cases q
  ·rw [List.getElem?_set_ne n];exact E.lk j d q
 ·rcases Fd e with⟨rfl,q⟩|⟨n,q⟩
  ·cases q
  ·rw [List.getElem?_set_ne n];exact E.lt j d q
section
variable{X:Cx}{EX:Ay}{i:Nat}{tb:List (Str×Bool)}{g h:FS}{c n:Str}{C2:Addr}{body aj:List Stmt}{b₀:Stmt}{np hp pos:Pos}
theorem Has.exc{G:Hp}{a C:Addr}{dx:Option Addr}{o:Obj}{x:Xn}(hn:G a=none)(e:ExcAt K G (.ref C) dx x):Has K (upd G a (.frz o (XO a C dx))) (.ref a) (.exn x.c x.ns x.vs):=by
 cases e with
 |bare hc=>exact .exn0 hc Ba
 |with_ hc hd hl r=>exact .exn1 hc Ba (by rw [An (Ef hd hn)];exact hd) hl (r.mono (g_4 hn _))
theorem co_9{H0:HB}{G0 G1:Hp}{D:Ends}{r:Fl}(q:Fin K EX H0 G0 G1 D (df_6 i r)):Fin K Bq H0 G0 G1 {nx:=λ σ H=>D.nx (σ.set i none) H,rt:=D.rt,bk:=λ σ H=>D.bk (σ.set i none) H,ct:=λ σ H=>D.ct (σ.set i none) H} r:=by
 cases r with
 |nx Δ=>exact λ σ G H O E sg=>q _ G H O (E.drop i) sg
 |bk Δ=>exact λ σ G H O E sg=>q _ G H O (E.drop i) sg
 |ct Δ=>exact λ σ G H O E sg=>q _ G H O (E.drop i) sg
 |rt w=>exact q
 |rv d Δ=>exact q.elim
 |ex x Δ=>exact q.elim
 |no=>exact q
end
structure XGet(K:Frag)(C:Addr)(f:Str):Prop where
 ga:findIn K (.ref C) "__getattribute__" =some (some (.builtin "BaseException.__getattribute__"))
 gt:findIn K (.ref C) "__getattr__" =some none
 be:mroIn K C (.type "BaseException")=some true
 hd:hasDictIn K C=true
 no:findIn K (.ref C) f=some none
section
variable{prog:Program}{w:World}{A:Around}{E:Value->Shared->Prop}{s:Shared}{K:Frag}{x C dx:Addr}{f:Str}
structure XInst(K:Frag)(C:Addr):Prop where
 ga:findIn K (.ref C) "__getattribute__" =some (some (.builtin "BaseException.__getattribute__"))
 gt:findIn K (.ref C) "__getattr__" =some none
 be:mroIn K C (.type "BaseException")=some true
 hd:hasDictIn K C=true
 cl:findIn K (.ref C) "__class__" =some (some (.builtin "object.__class__"))
 gs:specialIn K (.builtin "object.__class__") "__get__" =some (some (.builtin "getset_descriptor.__get__"))
 tk:takesIn K (.builtin "object.__class__")=some true
 ob:mroIn K C (.type "object")=some true
end
def eAttr(cs:List Str)(f:Str)(fo:FE):FE:=λ δ=>(fo δ).bind λw=>match w.d with
 | .exn c ns vs=>if cs.contains c=true then(match(ns.zip vs).lookup f with|some d=> .ok (.sh d)|none=> .no) else .no
 |_=> .no
section
variable{X:Cx}{EX:Ay}{o:Expr}{fo:FE}{f:Str}{cs:List Str}{pos:Pos}
end
def eIsC(tb:List (Str×Bool))(fo:FE):FE:=λ δ=>(fo δ).bind λw=>match w.d with
 | .exn c _ _=>(match tb.lookup c with|some b=> .ok (.sh (.bl b))|none=> .no)
 |_=> .no
section
variable{X:Cx}{EX:Ay}{zd:List (Addr×Obj)}{σ:Sg}{G H:Hp}{s:Shared}
variable{a:Expr}{fo:FE}{tb:List (Str×Bool)}{pp pos:Pos}
end
theorem RoomC.units{c:Bool}{k:Nat}{A:Around}(r:RoomC c k A):A.units + 64 < cLine:=by have:=r.un;omega
section
variable{X:Cx}{c:Bool}{k:Nat}{zd:List (Addr×Obj)}{W:Value->Shared->Prop}{e:HX}
theorem cp_0(h:RoomC c k (Cx.A X)):RoomC c k (Cx.A (Cx.nox X)):=h
theorem cp_1(h:RoomC c k (Cx.A X)):RoomC c k (Cx.A (tryB X zd W)):=h
theorem cp_2(h:Cx.calm X=true):Cx.calm (Cx.nox X)=true:=h
theorem j_2{cm:Bool}{P:Program}{w:World}{N:List Str}{qual:Str}{scope:Scope}{f:Addr}{cd:Value}{A:Around}{outer:List Env}{s:Shared}{E:XK}:
  PassesOwn (model P w) (Cx.A (cxN cm P w K mg base N qual scope f cd A outer s H E)) (Cx.env (cxN cm P w K mg base N qual scope f cd A outer s H E)) (Cx.xe (cxN cm P w K mg base N qual scope f cd A outer s H E)):=
 λe s' h=>wpAny_leaving_again (SameStack.refl _) h
theorem Catches.one{C2:Addr}{c:Str}{C:Addr}{b:Bool}(a:ClsAt K c C)(h:exmOne K (.ref C) (.ref C2)=some b){tb:List (Str×Bool)}(r:Catches K C2 tb):Catches K C2 ((c,b)::tb):=λc' b' e C' a'=>by
 rw [List.lookup_cons] at e;cases z:(c' ==c) with
 |true=>
  rw [z] at e;cases e;have:c'=c:=eq_of_beq z;subst this;unfold ClsAt at a a';rw [a] at a';cases a';exact h
 |false=>rw [z] at e;exact r c' b' e C' a'
theorem Catches.nil{C2:Addr}:Catches K C2 []:=λ_ _ e=>by cases e
end
structure Hd where
 i:Option Nat
 tb:List (Str×Bool)
 h:FS
def hdGo(d:Hd)(x:Xn)(Δ:SE):Fl:=match d.i with
 |some i=>df_6 i (d.h (Δ.set i (.sh (.exn x.c x.ns x.vs))))
 |none=>(match d.h Δ with
  | .ex _ _=> .no
  |r=>r)
def tryH:List Hd->Xn->SE->Fl
 | [],_,_=> .no
 |d::r,x,Δ=>match d.tb.lookup x.c with
  |some true=>hdGo d x Δ
  |some false=>tryH r x Δ
  |none=> .no
def as_1(g:FS)(hs:List Hd):FS:=λ Δ=>match g Δ with
 | .ex x Δ1=>tryH hs x Δ1
 |r=>r
inductive HOk3(X:Cx):List ExceptHandler->List Hd->Prop where
 |nil:HOk3 X [] []
 |as_ {c n:Str} {C2:Addr} {b₀:Stmt} {aj:List Stmt} {np hp:Pos} {i:Nat} {tb:List (Str×Bool)} {h:FS} {hs:List ExceptHandler} {ds:List Hd} (hc:X.mg c=some (.ref C2)) (ct:Catches X.K C2 tb) (hh:∀e,BD (hand X e) Bq (b₀::aj) h) (r:HOk3 X hs ds)
   (hi:X.N[i]? =some n:=by rfl) (hk:X.env.scope.names.lookup n=some .local:=by rfl) (hg:Gl X c:=by rfl) (hdb:(c ==("__debug__" :Str))=false:=by decide):
   HOk3 X (.ExceptHandler (some (.Name c np)) (some n) (b₀::aj) hp::hs) (⟨some i,tb,h⟩::ds)
 |bare {c:Str} {C2:Addr} {b₀:Stmt} {aj:List Stmt} {np hp:Pos} {tb:List (Str×Bool)} {h:FS} {hs:List ExceptHandler} {ds:List Hd} (hc:X.mg c=some (.ref C2)) (ct:Catches X.K C2 tb) (hh:∀e,BD (hand X e) Bq (b₀::aj) h) (r:HOk3 X hs ds)
   (hg:Gl X c:=by rfl) (hdb:(c ==("__debug__" :Str))=false:=by decide):
   HOk3 X (.ExceptHandler (some (.Name c np)) none (b₀::aj) hp::hs) (⟨none,tb,h⟩::ds)
def EXh(K:Frag)(EX:Ay)(D:Ends)(ds:List Hd):Ay:=λ σ=>⟨λx G H=>∃H0 G0 Δ O,Ev K H0 G0 G H σ Δ O/\Fin K EX H0 G0 G D (tryH ds x Δ),
 λ_ _ _ _ _ s ⟨H0,G0,Δ,O,E,f⟩=>⟨H0,G0,Δ,O,E.grow s,Fin.mono s.gg f⟩⟩
theorem da_1{EX:Ay}{H0:HB}{G0 G1:Hp}{D:Ends}{r:Fl}(q:Fin K EX H0 G0 G1 D (match r with| .ex _ _=> .no|r=>r)):Fin K Bq H0 G0 G1 {nx:=D.nx,rt:=D.rt,bk:=D.bk,ct:=D.ct} r:=by
 cases r with
 |nx Δ=>exact q
 |bk Δ=>exact q
 |ct Δ=>exact q
 |rt w=>exact q
 |rv d Δ=>exact q
 |ex x Δ=>exact q.elim
 |no=>exact q
section
variable{X:Cx}{EX:Ay}{g:FS}{body:List Stmt}{pos:Pos}
theorem cg_7(hN:X.N.Nodup){zd:List (Addr×Obj)}{D:Ends}{a C T2:Addr}{dx:Option Addr}{σ1 σ0:Sg}{H1 H2:Hp}{s1 s2:Shared}{h2:Heap}{x:Xn}{H0':HB}{G2 G0':Hp}{Δ1:SE}{O1:OS}{e0:HX}{h9:Heap}(ha:e0.a=a)(hC:e0.C=C)(hx:e0.dx=dx)(zz:X.s₀.heap.objs.size<=e0.a)
  (J1:Inv X zd σ0 H1 s1) (J3:Inv X zd σ1 H2 {s2 with heap:=h9}) (J4:Inv X zd σ1 (upd H2 a e0.ho) {s2 with heap:=h2}) (st4:Step G2 H2 (upd G2 a e0.ho) (upd H2 a e0.ho))
  (n1:H2 a=none) (sg2:Same G2 H2) (ea:ExcAt X.K G2 (.ref C) dx x) (LT:Looks (model X.prog X.w) h2 (typeOf (.ref a)) (.ref C)) (hcC:ClsAt X.K x.c C)
  (E1:Ev X.K H0' G0' G2 H2 σ1 Δ1 O1)
  (flt:∀{A:Around} {E:Value->Shared->Prop} {Q:Unit->Shared->Prop},(∀h3,Inv X zd σ1 (upd H2 a e0.ho) {s2 with heap:=h3}->Q () {s2 with heap:=h3})->wpAny (model X.prog X.w) A (setFlight (.ref a) none) Q E {s2 with heap:=h2}):
  ∀{hs:List ExceptHandler} {ds:List Hd},HOk3 X hs ds->Fin X.K EX H0' G0' G2 D (tryH ds x Δ1)->wpAny (model X.prog X.w) X.A (handleBy (.ref a) X.env hs) (SP X zd D) X.xe {s2 with heap:=h2}:=by
 subst ha hC hx;intro hs ds ho
 induction ho with
 |nil=>intro q;exact False.elim q
 |as_ hc ct hh r hi hk hg hdb ih=>
  rename_i c n C2 b₀ aj np hp i tb h hs ds;intro q;refine wpAny_handleBy_cons (codeAny_handlers_test ?_) (by intro z;cases z);refine p_6 (X:=hand X e0) (Inv.toH J4 zz Ba) hg hc ?_ hdb;unfold tryH at q;cases e2:tb.lookup x.c with
  |none=>simp only [e2] at q;exact q.elim
  |some b=>
   have em:=ct _ _ e2 _ hcC;refine Looks.here (s:={s2 with heap:=h2}) (exm_one J4.kIn LT em) ?_;cases b with
   |false=>simp only [e2] at q;exact ih q
   |true=>
    simp only [e2,hdGo] at q;show codeAny _ _ _ _ _;refine codeAny_handlers_suite_as (flt λh3 J5=> ?_);refine ap_8 (X:=hand X e0) (v:=.ref e0.a) (Inv.toH J5 zz Ba) hN hi (.inl hk) rfl (λs6 I6=> ?_) (.inr hk);have E6:=(E1.grow st4).put (i:=i) (Has.exc (sg2.free n1) ea);refine wpAny_mono (hh e0 zd s6 _ _ _ I6 ⟨H0',G0',_,_,O1,E6,co_9 (Fin.mono st4.gg q)⟩) (λf s7 h7=> ?_) λ_ _ z=>False.elim z;show wpAny _ X.A (do bindName X.env n .none;unbindBehindTheSuite X.env n hp) (λ_ s₃=>SP X zd D f s₃) _ s7;cases f with
    |next=>
     obtain⟨σ7,H7,I7,q7⟩:=h7;exact aa_2 (Inv.ofH J3 n1 zz I7) hN hi hk λs8 I8=>⟨_,H7,I8,q7⟩
    |brk=>
     obtain⟨σ7,H7,I7,q7⟩:=h7;exact aa_2 (Inv.ofH J3 n1 zz I7) hN hi hk λs8 I8=>⟨_,H7,I8,q7⟩
    |cont=>
     obtain⟨σ7,H7,I7,q7⟩:=h7;exact aa_2 (Inv.ofH J3 n1 zz I7) hN hi hk λs8 I8=>⟨_,H7,I8,q7⟩
    |ret u=>
     obtain⟨v,σ7,H7,I7,r7,q7⟩:=h7;exact aa_2 (Inv.ofH J3 n1 zz I7) hN hi hk λs8 I8=>⟨v,_,H7,I8,r7,q7⟩
 |bare hc ct hh r hg hdb ih=>
  rename_i c C2 b₀ aj np hp tb h hs ds;intro q;refine wpAny_handleBy_cons (codeAny_handlers_test ?_) (by intro z;cases z);refine p_6 (X:=hand X e0) (Inv.toH J4 zz Ba) hg hc ?_ hdb;unfold tryH at q;cases e2:tb.lookup x.c with
  |none=>simp only [e2] at q;exact q.elim
  |some b=>
   have em:=ct _ _ e2 _ hcC;refine Looks.here (s:={s2 with heap:=h2}) (exm_one J4.kIn LT em) ?_;cases b with
   |false=>simp only [e2] at q;exact ih q
   |true=>
    simp only [e2,hdGo] at q;show codeAny _ _ _ _ _;refine codeAny_handlers_suite (flt λh3 J5=> ?_);have E6:=E1.grow st4;refine wpAny_mono (hh e0 zd {s2 with heap:=h3} _ _ _ (Inv.toH J5 zz Ba) ⟨H0',G0',_,_,O1,E6,da_1 (Fin.mono st4.gg q)⟩) (λf s7 h7=> ?_) λ_ _ z=>False.elim z;cases f with
    |next=>
     obtain⟨σ7,H7,I7,q7⟩:=h7;exact⟨_,H7,Inv.ofH J3 n1 zz I7,q7⟩
    |brk=>
     obtain⟨σ7,H7,I7,q7⟩:=h7;exact⟨_,H7,Inv.ofH J3 n1 zz I7,q7⟩
    |cont=>
     obtain⟨σ7,H7,I7,q7⟩:=h7;exact⟨_,H7,Inv.ofH J3 n1 zz I7,q7⟩
    |ret u=>
     obtain⟨v,σ7,H7,I7,r7,q7⟩:=h7;exact⟨v,_,H7,Inv.ofH J3 n1 zz I7,r7,q7⟩
theorem da_2{hd0:ExceptHandler}{hs0:List ExceptHandler}{ds:List Hd}(hN:X.N.Nodup)(hfr:X.env.frame=some X.env.locals)(hst:X.stack=X.env::X.outer)(hb:∀zd W EXB,Lk (tryB X zd W) EXB->BD (tryB X zd W) EXB body g)(ho:HOk3 X (hd0::hs0) ds):
  SD X EX (.Try body (hd0::hs0) [] [] pos) (as_1 g ds):=by
 intro zd s σ H D I q;obtain⟨H0,G0,G,Δ,O,E,q⟩:=q;refine wpAny_Try_except ?_;have lk:Lk (tryB X zd λe s₁=>wpAny (model X.prog X.w) X.A (noteFrame e X.env) (λ_ s₂=>wpAny (model X.prog X.w) X.A (setFlight e none) (λ_ s₃=>wpAny (model X.prog X.w) X.A (handleBy e X.env (hd0::hs0)) (SP X zd D) X.xe s₃) X.xe s₂) X.xe s₁) (EXh X.K EX D ds):=by
  intro ao σ1 H1 s1 e s2 I1 cx;obtain⟨a,C,dx,T,H2,rfl,I2,tr,n1,n2,z1,z2,x,G2,sg2,ea,H0',G0',Δ1,O1,E1,f1⟩:=Inv.raised I1 cx;show wpAny _ X.A (noteFrame (.ref a) X.env) _ _ s2;have J1:=Inv.ofB I1;have J2:=Inv.ofB I2;refine ay_9 (outer:=X.outer) (by rw [<-hst];exact J2.ok.frames) (by rw [<-hst];exact J2.stack) hfr tr λh1 T2 z3 k1 t1=> ?_;refine s_3 t1 λh2 k2 t2=> ?_;have zT2:H2 T2=none:=J2.hok.fresh z3;have J3:Inv X zd σ1 H2 {s2 with heap:=h2}:=by
   refine Inv.settle (ch:=[a,T] ++ [T2]) J1 J2 (λb hb=> ?_) ?_
   ·have:b=a\/b=T\/b=T2:=by simpa using hb
    rcases this with rfl|rfl|rfl
    ·exact⟨z1,n1⟩
    ·exact⟨z2,n2⟩
    ·exact⟨Nat.le_trans z1 (Nat.le_trans (Nat.le_of_lt (Heap.lt_size tr.ob.choose_spec.choose_spec.1)) z3),zT2⟩
   ·rw [hst];exact k1.trans (KeepX.of_same k2)
  obtain⟨⟨oa,ua,ga,gc,gd,gf,g1,g2⟩,ne,tbk⟩:=id t2;have goa:h2.get? a=some ⟨.ref C,dx,.fields ua,oa.slots⟩:=by
   obtain⟨c1,d1,e1,s1⟩:=oa;simp only at gc gd gf;subst gc gd gf;exact ga
  let e0:HX:=⟨a,C,dx,ua,oa.slots,g2⟩
  have zz:X.s₀.heap.objs.size<=e0.a:=Nat.le_trans J1.sz z1;have J4:Inv X zd σ1 (upd H2 a e0.ho) {s2 with heap:=h2}:=Inv.speak J1 J3 z1 goa g2 n1;have st4:Step G2 H2 (upd G2 a e0.ho) (upd H2 a e0.ho):=Step.new sg2 n1 _;have LT:Looks (model X.prog X.w) h2 (typeOf (.ref a)) (.ref C):=gc▸(Looks.ld ga).andThen .now;obtain⟨hcC⟩:Nonempty (ClsAt X.K x.c C):=by cases ea with|bare hc=>exact⟨hc⟩|with_ hc _ _ _=>exact⟨hc⟩
  refine cg_7 (e0:=e0) (T2:=T2) hN rfl rfl rfl zz J1 J3 J4 st4 n1 sg2 ea LT hcC E1 (λ{A E Q} hq=> ?_) ho f1;refine s_3 t2 λh3 k3 t3=>hq h3 ?_;refine Inv.settle (ch:=[T2]) (s':={s2 with heap:=h2}) J1 J4 (λb hb=> ?_) (KeepX.of_same k3);have:b=T2:=by simpa using hb
  subst this;exact⟨Nat.le_trans z1 (Nat.le_trans (Nat.le_of_lt (Heap.lt_size tr.ob.choose_spec.choose_spec.1)) z3),by rw [An ne];exact zT2⟩
 refine wpAny_mono (hb zd _ _ lk [] s σ H D (Inv.toB I) ⟨H0,G0,G,Δ,O,E, ?_⟩) (λf s1 hs=> ?_) λ_ _ z=>z
 ·unfold as_1 at q;cases e1:g Δ with
  |ex x Δ1=>
   rw [e1] at q;exact λ σ1 G1 H1 O1 E1 sg=>⟨H0,G0,Δ1,O1,E1,Fin.mono sg q⟩
  |nx Δ1=>rw [e1] at q;exact q
  |bk Δ1=>rw [e1] at q;exact q
  |ct Δ1=>rw [e1] at q;exact q
  |rt w=>rw [e1] at q;exact q
  |rv d Δ1=>rw [e1] at q;exact q
  |no=>rw [e1] at q;exact q
 ·have hs':=SP.ofB hs;cases f with
  |next=>exact wpAny_execs_nil hs'
  |brk=>exact hs'
  |cont=>exact hs'
  |ret u=>exact hs'
end
section
variable{prog:Program}{w:World}{A:Around}{E:Value->Shared->Prop}{h:Heap}{g:Array GenState}{d:Drawn}{t:Nat}{os:OsState}
variable{nm q:Str}{C N:Addr}{bs bm bmB:List Value}{bc:Bool}{sn:List Str}{sub:List Value}{ab:Bool}{col:Option Bool}{dd:Option Addr}{k0 k1 k2 k3 k5:Option Value}{B newId ak:String}
theorem bu_2(FB:ExcBaseFacts B newId ak bmB)(T:OwnTail h bmB bm){mN:Str->Option Value}{Q:PySem.Fin->Shared->Prop}
  (hC:h.get? C=some (excClassObj nm q C N bs bm bc sn sub ab col dd k0 k1 k2 k3 k5 newId)) (hn:h.Ns N mN) (hi:mN "__init__" =none)
  (z:∀h' e,Heap.MadeExcOf h h' e (.ref C) []->h.objs.size<=e->Q (.done (.ret (.ref e))) ⟨h',g,d,t,os⟩):
  wpAny (model prog w) A (Builtin.«type.__call__» ⟨[.ref C],[]⟩) Q E ⟨h,g,d,t,os⟩:=by
 wp_walk using wpAny_loadPart_at hC,wpAny_madeBy_exc hC
 refine codeAny_call_builtin_code (Code.quiet_builtin _ FB.quiet) (wpAny_check_new_subT FB T hC ?_);refine codeAny_exc_new_subT FB T hC ?_ (by show 0<=sizeLine;exact Nat.zero_le _);show wpAny _ _ _ _ _ _;generalize e1:({cls:=.type "tuple",data:=.seq ([]:List Value).toArray}:Obj)=o1;generalize e2:({cls:=.ref C,data:=.fields #[.ref h.objs.size,.none,.none,.none,.bool false,.none]}:Obj)=o2;have up:∀b o,h.get? b=some o->((h.push o1).push o2).get? b=some o:=λb o e=>Heap.get?_push_of_some _ (Heap.get?_push_of_some _ e);have ge:((h.push o1).push o2).get? (h.objs.size + 1)=some o2:=by
  have:=Heap.get?_push_size (h.push o1) (o:=o2) (by rw [<-e2];rfl)
  rwa [Heap.size_push] at this
 have hC1:=up _ _ hC;have hn1:((h.push o1).push o2).Ns N mN:=hn.keeps up;have T1:=T.keeps up;have cl:o2.cls=.ref C:=by rw [<-e2]
 have hcC:List.contains (Value.ref C::bm) (.ref C)=true:=List.contains_iff_mem.mpr (.head _);unfold isInstance
 repeat (first|(with_reducible refine wpAny_loadPart_at ge ?_;rw [cl])|(with_reducible refine wpAny_isSubtype_exc hC1 ?_;rw [hcC])|wp_step)
 show wpAny _ _ (typeLookup (.ref C) _) _ _ _;refine wpAny_typeLookup_tail hC1 hn1 T1 FB.mroIs FB.init.lookup ?_;rw [hi];refine wpAny_holding (wpAny_bind (wpAny_of_eq (FB.init.bind _) ?_));refine wpAny_bind (wpAny_call (codeAny_call_builtin FB.init.plain FB.initEntry (wpAny_check_init_subT FB T1 hC1 ge cl ?_)));subst e1 e2
 wp_walk
 refine z _ (h.objs.size + 1) ⟨λb o hb=> ?_,Heap.get?_none_of_le (Nat.le_succ _),h.objs.size + 2, ?_,Heap.get?_none_of_le (by omega), ?_⟩ (Nat.le_succ _)
 ·rw [Heap.get?_update_other _ _ (Ne.symm (Nat.ne_of_lt (Nat.lt_succ_of_lt (Heap.lt_size hb))))];exact Heap.get?_push_of_some _ (up b o hb)
 ·rw [Heap.get?_update_self _ (Heap.get?_push_of_some _ ge) rfl,Heap.size_push,Heap.size_push];rfl
 ·rw [Heap.get?_update_other _ _ (Nat.ne_of_lt (Nat.lt_succ_self (h.objs.size + 1)))];exact Heap.get?_push_at (by rw [Heap.size_push,Heap.size_push]) rfl
theorem cg_8(FB:ExcBaseFacts B newId ak bmB)(T:OwnTail h bmB bm){mN:Str->Option Value}{Q:Value->Shared->Prop}
  (hC:h.get? C=some (excClassObj nm q C N bs bm bc sn sub ab col dd k0 k1 k2 k3 k5 newId)) (hn:h.Ns N mN) (hi:mN "__init__" =none)
  (z:∀h' e,Heap.MadeExcOf h h' e (.ref C) []->h.objs.size<=e->Q (.ref e) ⟨h',g,d,t,os⟩):
  wpAny (model prog w) A (call (.ref C) []) Q E ⟨h,g,d,t,os⟩:=by
 have f1:=tc_lookup;have f2:=tc_bind (.ref C);have Cq:Shared.TypeIs ⟨h,g,d,t,os⟩ (.ref C) "type" :=⟨_,hC,rfl⟩;refine wpAny_call (codeAny_of_tree (?_:wpAny _ _ (callAny (.ref C) _) _ _ _))
 wp_walk using wpAny_loadPart_at hC
 refine⟨rfl, ?_⟩;exact codeAny_call_builtin_at (Code.quiet_builtin _ (by decide +kernel)) entry_typeCall (wpAny_check_type_call_sub hC (bu_2 FB T hC hn hi z))
end
def XMk0(K:Frag)(C:Addr):Prop:=∃(nm q:Str) (N:Addr) (bs bm:List Value) (sn:List Str) (sub:List Value) (ab:Bool) (col:Option Bool) (dd:Option Addr) (k0 k1 k2 k3 k5:Option Value) (mN:Str->Option Value),
 K.lookup C=some (excClassObj nm q C N bs bm true sn sub ab col dd k0 k1 k2 k3 k5 "ValueError.__new__")/\(∀h:Heap,K.In h->OwnTail h bmVE bm)/\(∀h:Heap,K.In h->h.Ns N mN)/\mN "__init__" =none
theorem da_4{C N L:Addr}{nm q:Str}{bs:List Value}{sn:List Str}{sub:List Value}{ab:Bool}{col:Option Bool}{dd:Option Addr}{k0 k1 k2 k3 k5:Option Value}{oc c0 oL:Value}{od ddL odL:Option Addr}{es esL:Array DictEntry}{ep epL:Nat}{sl sl0 slL:Array (Option Value)}{cd:ClassData}
  (lc:K.lookup C=some (excClassObj nm q C N bs (.ref L::bmVE) true sn sub ab col dd k0 k1 k2 k3 k5 "ValueError.__new__")) (ln:K.lookup N=some ⟨oc,od,.dict es ep,sl⟩) (kn:l_2 es=true) (hi:nsFind es "__init__" =none)
  (ll:K.lookup L=some ⟨c0,ddL,.cls cd,sl0⟩) (lm:K.lookup cd.ns=some ⟨oL,odL,.dict esL epL,slL⟩) (km:l_2 esL=true) (hL:nsFind esL "__init__" =none):XMk0 K C:=
 ⟨nm,q,N,bs,_,sn,sub,ab,col,dd,k0,k1,k2,k3,k5,nsFind es,lc,λh X=> .own (X _ _ ll) (bz_6 lm km X) hL .base,λh X=>bz_6 ln kn X,hi⟩
structure XC0(K:Frag)(mg:Str->Option Value)(c:Str)(C:Addr):Prop where
 at_:ClsAt K c C
 glob:mg c=some (.ref C)
 kp:keepIn K (.ref C)=true
 made:XMk0 K C
def aa_3(c:Str):FS:=λ Δ=> .ex ⟨c,[],[]⟩ Δ
section
variable{X:Cx}{C:Addr}{c:Str}
theorem ba_1{EX:Ay}{np zf pos:Pos}(M:XC0 X.K X.mg c C)(hr:RoomC true 2 X.A)(l1:Lk1 X EX)(hg:Gl X c:=by rfl)(hdb:(c ==("__debug__" :Str))=false:=by decide):
  SD X EX (.Raise (some (.Call (.Name c np) [] [] zf)) none pos) (aa_3 c):=by
 intro zd s σ H D I q;obtain⟨H0,G0,G,Δ,O,E,q⟩:=q;obtain⟨nm,qn,N,bs,bm,sn,sub,ab,col,dd,k0,k1,k2,k3,k5,mN,lc,tl,hn,hi⟩:=M.made;have hB:bm.contains (.type "BaseException")=true:=ai_7 (tl s.heap I.kIn);rw [arm_exec_Raise];have mk:wpAny (model X.prog X.w) X.A (eval (.Call (.Name c np) [] [] zf) X.env) (λv s1=>∃a t dx,v=.ref a/\s1.heap.get? C=some (excClassObj nm qn C N bs bm true sn sub ab col dd k0 k1 k2 k3 k5 "ValueError.__new__")/\
   s1.heap.get? a=some {cls:=.ref C,dict:=dx,data:=.fields #[.ref t,.none,.none,.none,.bool false,.none]}/\X.xe (.ref a) s1) X.xe s:=by
  refine wpAny_Call_Name_kw (p_6 I hg M.glob ?_ hdb);refine callWith_K0 I.kIn M.kp ?_;have KX:=I.kIn;obtain⟨hh,gg,dr,tk,os⟩:=s;refine cg_8 PySem.F.excBase_ValueError (tl hh KX) (KX _ _ lc) (hn hh KX) hi λh' a me za=> ?_;obtain⟨kk,new,t,et,_,_⟩:=me;have I2:Inv X zd σ H ⟨h',gg,dr,tk,os⟩:=I.kept (h':=h') (t':=tk) kk;refine⟨a,t,none,rfl,I2.kIn _ _ lc,et, ?_⟩;exact l1 zd σ H H ⟨hh,gg,dr,tk,os⟩ ⟨h',gg,dr,tk,os⟩ a C none _ _ I I2 et rfl rfl rfl rfl rfl (I.hok.fresh za) za ⟨⟨c,[],[]⟩,G,E.st.gh,.bare M.at_,q σ G H O E (Same.refl _)⟩
 refine wpAny_bind (wpAny_standAt (az_0 hB (hr.hd rfl) (wpAny_bind (wpAny_mono mk (λv s3 h3=>wpAny_bind (wpAny_standAt (wpAny_pure h3))) λ_ _ x=>x))))
end
end L3
namespace L3
open PySem L2
variable{K:Frag}{fd:FuncData}{mg:Str->Option Value}{us:List Value}{base:Heap}{H:Hp}{X:Cx}{pos:Pos}{v:V}
abbrev Ai{a b:Prop}(x:a)(y:b):a/\b:=⟨x,y⟩
def Ao:=Ai @Ap.eq_1 (Ai @Bd.eq_1 (Ai @Ag.eq_1 (Ai @Al.eq_1 (Ai @gsome.eq_1 (Ai @give1.eq_1 (Ai @List.foldl_cons.{0,0} (Ai @List.foldl_nil.{0,0} (Ai @At.eq_1 (Ai @Cl.eq_1 (Ai @Bu.eq_1 (Ai @sExpr.eq_1 (Ai @Az.eq_1 (Ai @As.eq_1 (Ai @Bb.eq_1 (Ai @gall.eq_1 (Ai @dl_8 (Ai @dl_9 (Ai @dm_0 (Ai @dm_1 (Ai @dm_2 (Ai @dm_3 (Ai @cz_6 (Ai @cz_7 (Ai @cz_8 (Ai @Ae.eq_1 (Ai @Aa.eq_1 (Ai @eC.eq_1 (Ai @Ak.eq_1 (Ai @Ax.eq_1 (Ai @Bz.eq_1 (Ai @Bz.eq_2 (Ai @Bz.eq_3 (Ai @Bz.eq_4 (Ai @Bz.eq_5 (Ai @Bz.eq_6 (Ai @Bz.eq_7 (Ai @Dg.eq_1 (Ai @Dg.eq_2 (Ai @Aq.eq_1 (Ai @Bj.eq_1 (Ai @R.calm_ok (Ai @R.calm_no (Ai @R.calm_ex (Ai @Dy.eq_1 (Ai @Dy.eq_2 (Ai @Dy.eq_3 (Ai @Dy.eq_4 (Ai @Dy.eq_5 (Ai @eAttr.eq_1 (Ai @eIsC.eq_1 (Ai @isND.eq_1 (Ai @isND.eq_2 (Ai @nonB.eq_1 (Ai @nonB.eq_2 (Ai @Ac.eq_1 (Ai @Ab.eq_1 (Ai @Cg.eq_1 (Ai @Dq.eq_1 (Ai @eIf.eq_1 (Ai @eAnd.eq_1 (Ai @eOr.eq_1 (Ai @eNot.eq_1 (Ai @Cp.eq_1 (Ai @Fj.eq_1 (Ai @Bm.eq_1 (Ai @eIs.eq_1 (Ai @bk_6 (Ai @bt_8 (Ai @bk_7 (Ai @bk_8 (Ai @bk_9 (Ai @bl_0 (Ai @be_7 (Ai @bl_1 (Ai @be_8 (Ai @be_9 (Ai @bf_0 (Ai @bf_1 (Ai @bl_2 (Ai @bt_9 (Ai @bl_3 (Ai @bl_4 (Ai @bl_5 (Ai @bl_6 (Ai @bf_2 (Ai @bl_7 (Ai @bf_3 (Ai @bf_4 (Ai @bf_5 (Ai @bf_6 (Ai @aw_9 (Ai @bf_7 (Ai @ax_0 (Ai @ax_1 (Ai @ax_2 (Ai @ax_3 (Ai @eSlice.eq_1 (Ai @oNone.eq_1 (Ai @oSome.eq_1 (Ai @intPart.eq_1 (Ai @intPart.eq_2 (Ai @eMeth.eq_1 (Ai @eMeth0.eq_1 (Ai @tyD.eq_1 (Ai @tyD.eq_2 (Ai @tyD.eq_3 (Ai @tyD.eq_4 (Ai @Ew.eq_1 (Ai @Es.eq_1 (Ai @Er.eq_1 (Ai @Er.eq_2 (Ai @Er.eq_3 (Ai @Er.eq_4 (Ai @R.bind_ok (Ai @R.bind_no (Ai @R.bind_ex (Ai @W.d_sh (Ai @W.d_ow (Ai @List.map_cons.{0,0} (Ai @List.map_nil.{0,0} (Ai @List.cons_append.{0} (Ai @List.nil_append.{0} (Ai @List.append_nil.{0} (Ai @List.replicate_succ.{0} (Ai @List.replicate_zero.{0} (Ai @List.length_cons.{0} (Ai @List.length_nil.{0} (Ai @List.set_cons_zero.{0} (Ai @List.set_cons_succ.{0} (Ai @List.getElem?_cons_zero.{0} (Ai @List.getElem?_cons_succ.{0} (Ai @if_true.{1} (Ai @if_false.{1} (Ai @Bn.eq_1 (Ai @Bn.eq_2 (Ai @Bn.eq_3 (Ai @Bn.eq_4 (Ai @Bn.eq_5 (Ai @Bool.false_eq_true (Ai @Bool.not_true (Ai @Bool.not_false (Ai @Bool.true_and (Ai @Bool.false_and (Ai @Nat.zero_add (Ai @decide_true (Ai @decide_false (Ai @gC.eq_1 (@gV.eq_1))))))))))))))))))))))))))))))))))))))))))))))))))))))))))))))))))))))))))))))))))))))))))))))))))))))))))))))))))))))))))))))))))))))))))))))))))))
end L3
namespace L3
open PySem PySem.Spec PyProof.Rows L2
variable{K:Frag}{fd:FuncData}{mg:Str->Option Value}{us:List Value}{base:Heap}{H:Hp}{X:Cx}{pos:Pos}{v:V}
abbrev HBd(c:Bool)(P:Program)(w:World)(K:Frag)(mg:Str->Option Value)(base:Heap)(N:List Str)(qual:Str)(st:Stmt)(f:Addr)(k:Nat)(g:FS):Prop:=∀{zq:Value} {A:Around} {outer:List Env} {s:Shared} {H:Hp} {E:XK},(cxN c P w K mg base N qual (Ci st) f zq A outer s H E).calm=c->RoomC c k (Cx.A (cxN c P w K mg base N qual (Ci st) f zq A outer s H E))->(Cx.A (cxN c P w K mg base N qual (Ci st) f zq A outer s H E)).units + 64 < cLine->N.Nodup->Lk (cxN c P w K mg base N qual (Ci st) f zq A outer s H E) (λ_=>EXof K E)->
   BD (cxN c P w K mg base N qual (Ci st) f zq A outer s H E) (λ_=>EXof K E) (Fk st) g
theorem Ct{c:Bool}{P:Program}{w:World}{x qual:Str}{st:Stmt}{f:Addr}{N ps:List Str}{k:Nat}{g:FS}(F:Fun K x qual st f fd)
  (zj:HBd c P w K mg base N qual st f k g) (S:FnScope N ps (Ci st):=by exact⟨rfl,rfl,rfl,by decide +kernel,rfl,by decide +kernel,by decide +kernel⟩):FnX P w K mg base c (k + 1) f fd ps (Ca K ps.length (Ap N.length g)):=
 fn_D F S λzq A outer s H E hr=>zj rfl hr (RoomC.units hr) S.nd bs_7
def FnAt(K:Frag)(x qual:Str)(st:Stmt)(f:Addr):Prop:=∃fd,Fun K x qual st f fd
theorem FnAt.mk{x qual:Str}{st:Stmt}{f:Addr}{oc kV dc pm cd ct:Value}{od an:Option Addr}{sl:Array (Option Value)}
  (l:K.lookup f=some ⟨oc,od,.func (fnOf x qual (i_8 st) (Fk st) (Ci st) .none kV dc pm an cd ct),sl⟩) (c:codeIn K cd qual=true) (k:keepIn K (.ref f)=true):FnAt K x qual st f:=⟨_,br_9 l c k⟩
def FnTop(K:Frag)(x:Str)(st:Stmt):Prop:=∃f,nsIn K mainGlobals x=some (some (.ref f))/\FnAt K x x st f
theorem FnTop.mk{x:Str}{st:Stmt}{f:Addr}{oc kV dc pm cd ct:Value}{od an:Option Addr}{sl:Array (Option Value)}(a:nsIn K mainGlobals x=some (some (.ref f)))
  (l:K.lookup f=some ⟨oc,od,.func (fnOf x x (i_8 st) (Fk st) (Ci st) .none kV dc pm an cd ct),sl⟩) (c:codeIn K cd x=true) (k:keepIn K (.ref f)=true):FnTop K x st:=⟨f,a,FnAt.mk l c k⟩
def FnMet(K:Frag)(C:Addr)(x qual:Str)(st:Stmt):Prop:=∃f,findIn K (.ref C) x=some (some (.ref f))/\FnAt K x qual st f/\keepIn K (.ref f)=true/\isFn K (.ref f)=true
theorem FnMet.mk{C:Addr}{x qual:Str}{st:Stmt}{f:Addr}{oc kV dc pm cd ct:Value}{od an:Option Addr}{sl:Array (Option Value)}(a:findIn K (.ref C) x=some (some (.ref f)))
  (l:K.lookup f=some ⟨oc,od,.func (fnOf x qual (i_8 st) (Fk st) (Ci st) .none kV dc pm an cd ct),sl⟩) (c:codeIn K cd qual=true) (k:keepIn K (.ref f)=true) (i:isFn K (.ref f)=true):FnMet K C x qual st:=⟨f,a,FnAt.mk l c k,k,i⟩
section
variable{X:Cx}{EX:Ay}{pos:Pos}
end
section
variable{X:Cx}{EX:Ay}{pos:Pos}
end
section
variable{X:Cx}{EX:Ay}
end
end L3
namespace PySem
namespace SetTable
structure Cut(xs:Array Nat)(j k:Nat):Prop where
 le:k<=xs.size
 lo:∀i x,i < k->xs[i]? =some x->x < j
 hi:∀i x,k<=i->xs[i]? =some x->j<=x
end SetTable
end PySem
namespace PySem
def vInt:Value->Int
 | .int i _=>i
 |_=>0
section
variable{prog:Program}{w:World}{A:Around}{E:Value->Shared->Prop}{s:Shared}{led:Bool}{ns:List Int}{a:Addr}
end
end PySem
namespace PySem
open AutoSeq1 (wpAny_loadPart')
namespace F
end F
section
variable{prog:Program}{w:World}{A:Around}{E:Value->Shared->Prop}{s:Shared}
def Heap.SetIt(h:Heap)(I S:Addr)(f:Value)(i n ep:Nat):Prop:=∃o,h.get? I=some o/\o.cls=.type "set_iterator" /\o.data=.fields #[f,rawInt i,.ref S,rawInt n,rawInt ep]
theorem Heap.SetIt.ty{I S:Addr}{f:Value}{i n ep:Nat}(x:s.heap.SetIt I S f i n ep):s.TypeIs (.ref I) "set_iterator" :=x.elim λo z=>⟨o,z.1,z.2.1⟩
end
end PySem
namespace PySem
open AutoSeq1 (wpAny_loadPart')
section
variable{prog:Program}{w:World}{A:Around}{R:Result->Shared->Prop}{I S:Addr}{fp wr:List Addr}{G:Array GenState->Array GenState->Prop}{n:Nat}{P:Nat->Value->Prop}{St:Nat->Shared->Prop}{led:Bool}
end
section
variable{prog:Program}{w:World}{A:Around}{E:Value->Shared->Prop}{s:Shared}
end
end PySem
namespace PySem
open AutoSeq1 (wpAny_loadPart')
section
variable{prog:Program}{w:World}{A:Around}{E:Value->Shared->Prop}{s:Shared}
end
end PySem
namespace PySem
open AutoSeq1 (wpAny_loadPart')
namespace SetTable
end SetTable
section
variable{prog:Program}{w:World}{A:Around}
end
section
variable{prog:Program}{w:World}{A A':Around}{E:Value->Shared->Prop}{s:Shared}
structure SetWalk(prog:Program)(w:World)(A':Around)(h:Heap)(I S:Addr)(old:Nat)(ns:List Int):Prop where
 ex:∃(fp:List Addr) (n:Nat) (vals:Array Value) (St:Nat->Heap->Prop),Walks prog w A' I fp [I] n (λi v=>vals[i]? =some v) St/\St 0 h/\(∀b∈fp,b < h.objs.size/\(b=S\/old<=b))/\n=vals.size/\(vals.toList.map vInt).Perm ns/\∀v∈vals.toList,∃i t,v=.int i t
 new:old<=I
end
end PySem
namespace PySem
open AutoSeq1 (wpAny_loadPart')
open PyProof.Rows (IntsAre seqObj sortedHeap)
section
variable{prog:Program}{w:World}{A:Around}{E:Value->Shared->Prop}{s:Shared}
end
end PySem
namespace L3
open PySem PySem.Spec PyProof.Rows L2
variable{K:Frag}{fd:FuncData}{mg:Str->Option Value}{us:List Value}{base:Heap}{H:Hp}{X:Cx}{pos:Pos}{v:V}
section
variable{X:Cx}{EX:Ay}{a:Expr}{f:FE}{p p' pos pos':Pos}
end
theorem Inv.retag{zd:List (Addr×Obj)}{σ:Sg}{s:Shared}(I:Inv X zd σ H s){a:Addr}{u u':HO}(hu:H a=some u)(n1:∀xs,u≠ .tup xs)(n2:∀x,u≠ .own x)(n3:∀ps,u≠ .tbl ps)(nf:∀o v,X.H₀ a≠some (.frz o v))(new:ObjOk X.prog X.w (upd H a u') s.heap a u'):Inv X zd σ (upd H a u') s:=by
 have off:∀b,H b=none->upd H a u' b=none:=λb z=>by
  rw [An (λq=>by rw [q,hu] at z;cases z)];exact z
 refine⟨I.ok,I.os,I.bare,⟨I.base.keep,I.base.slot,λb o e n hx=>off b (I.base.free b o e n hx),I.base.there,λb xs e=> ?_,λb o v e=> ?_,λb ps e=> ?_⟩,I.loc,I.cell,off _ I.free,λx c e=>off c (I.freeC x c e),λp hp=> ?_,λb o e=> ?_,I.len⟩
 ·have z:=I.base.tups b xs e;rw [An (λq=>by rw [q,hu] at z;cases z;exact n1 _ rfl)];exact z
 ·have z:=I.base.frzs b o v e;rw [An (λq=>by subst q;exact nf _ _ e)];exact z
 ·obtain⟨more,z⟩:=I.base.tbls b ps e;exact⟨more,by rw [An (λq=>by rw [q,hu] at z;cases z;exact n3 _ rfl)];exact z⟩
 ·obtain⟨z1,z2,z3⟩:=I.pin p hp;exact⟨z1,off _ z2,z3⟩
 ·by_cases hb:b=a
  ·subst hb;rw [Ba] at e;cases e;exact new
  ·rw [An hb] at e;refine(I.hok b o e).stay (λ_ _ _ q=>q) (λc z=> ?_) λc xs z=> ?_
   ·rw [An (λq=>by rw [q,hu] at z;cases z;exact n2 _ rfl)];exact z
   ·rw [An (λq=>by rw [q,hu] at z;cases z;exact n1 _ rfl)];exact z
section
variable{K:Frag}{G:Hp}{a:Addr}{u u':HO}
def isDk(kvs:List (Af×V))(u:HO):Prop:=u=.dK kvs\/∃o,u=.frz o (.dK kvs)
theorem isDk.rd{kvs:List (Af×V)}(h:isDk kvs u)(e:G a=some u):Rd G a (.dK kvs):=by
 rcases h with rfl|⟨o,rfl⟩
 ·exact .inl e
 ·exact .inr ⟨o,e⟩
theorem isDk.noL{kvs:List (Af×V)}(h:isDk kvs u)(e:G a=some u){xs:List V}:¬Rd G a (.lst xs)/\¬Rd G a (.tup xs):=by
 rcases h with rfl|⟨o,rfl⟩
 ·exact⟨λr=>by rcases r with r|⟨o,r⟩ <;> (rw [e] at r;cases r),λr=>by rcases r with r|⟨o,r⟩ <;> (rw [e] at r;cases r)⟩
 ·exact⟨λr=>by rcases r with r|⟨o,r⟩ <;> (rw [e] at r;cases r),λr=>by rcases r with r|⟨o,r⟩ <;> (rw [e] at r;cases r)⟩
theorem isDk.one{kvs bj:List (Af×V)}(h:isDk kvs u)(e:G a=some u)(r:Rd G a (.dK bj)):bj=kvs:=by
 rcases h with rfl|⟨o,rfl⟩ <;> rcases r with r|⟨o,r⟩ <;> (rw [e] at r;cases r;try rfl)
theorem isDk.noX{kvs:List (Af×V)}(h:isDk kvs u)(e:G a=some u):(∀φ,G a≠some (.ext φ))/\(∀fs,G a≠some (.xd fs))/\∀C dx fs,G a≠some (.ins C dx fs):=by
 rcases h with rfl|⟨o,rfl⟩ <;> exact⟨λ_ z=>(by rw [e] at z;cases z),λ_ z=>(by rw [e] at z;cases z),λ_ _ _ z=>(by rw [e] at z;cases z)⟩
theorem isDk.noF{kvs:List (Af×V)}(h:isDk kvs u)(e:G a=some u)(o:Obj)(x C:Addr)(dx:Option Addr):G a≠some (.frz o (XO x C dx)):=by
 rcases h with rfl|⟨o,rfl⟩ <;> exact λz=>(by rw [e] at z;cases z)
theorem cp_3{b:Addr}{v:HO}(h:b≠a)(r:Rd G b v):Rd (upd G a u') b v:=by
 rcases r with r|⟨o,r⟩
 ·exact .inl (by rw [An h];exact r)
 ·exact .inr ⟨o,by rw [An h];exact r⟩
mutual
theorem Has.tag{kvs:List (Af×V)}(ha:G a=some u)(hd:isDk kvs u)(hd':isDk kvs u'):∀{v:V} {d:D},Has K G v d->Has K (upd G a u') v d
 |_,_,.non=> .non
 |_,_,.bl b=> .bl b
 |_,_,.int i=> .int i
 |_,_,.str x=> .str x
 |_,_,.lst (a:=b) h r=>by
  refine .lst ?_ (HasL.tag ha hd hd' r);rcases h with h|h
  ·exact .inl (cp_3 (λz=>(hd.noL ha).1 (by rw [<-z];exact h)) h)
  ·exact .inr h
 |_,_,.tup (a:=b) h r=>by
  refine .tup ?_ (HasL.tag ha hd hd' r);rcases h with h|h
  ·exact .inl (cp_3 (λz=>(hd.noL ha).2 (by rw [<-z];exact h)) h)
  ·exact .inr h
 |_,_,.exn0 (a:=b) hc h=> .exn0 hc (by rw [An (λz=>hd.noF ha _ _ _ _ (by rw [<-z];exact h))];exact h)
 |_,_,.exn1 (a:=b) (d:=e) hc h hx hl r=> .exn1 hc (by rw [An (λz=>hd.noF ha _ _ _ _ (by rw [<-z];exact h))];exact h) (by rw [An (λz=>(hd.noX ha).2.1 _ (by rw [<-z];exact hx))];exact hx) hl (HasL.tag ha hd hd' r)
 |_,_,.dic (a:=b) h hk r=>by
  have r':=HasL.tag ha hd hd' r
  by_cases hb:b=a
  ·refine .dic ?_ hk r';have e:=hd.one ha (by rw [<-hb];exact h);rw [e,hb];exact hd'.rd Ba
  ·exact .dic (cp_3 hb h) hk r'
 |_,_,.obj (a:=b) hc h hl r=> .obj hc (by rw [An (λz=>(hd.noX ha).2.2 _ _ _ (by rw [<-z];exact h))];exact h) hl (HasL.tag ha hd hd' r)
theorem HasL.tag{kvs:List (Af×V)}(ha:G a=some u)(hd:isDk kvs u)(hd':isDk kvs u'):∀{vs:List V} {ds:List D},HasL K G vs ds->HasL K (upd G a u') vs ds
 |_,_,.nil=> .nil
 |_,_,.cons h r=> .cons (Has.tag ha hd hd' h) (HasL.tag ha hd hd' r)
end
end
def Itk(a:Addr)(ob:Obj)(kvs:List (Af×V)):It:=⟨λi H=>H a=some (.frz ob (.dK kvs))/\i < kvs.length,λi H x H'=>H'=H/\∃p,kvs[i]? =some p/\x=kV p.1,λi H=>H a=some (.frz ob (.dK kvs))/\i=kvs.length⟩
theorem af_1{P:Program}{w:World}{h:Heap}{a:Addr}{ob:Obj}{kvs:List (Af×V)}(ok:HOk P w H h)(e:H a=some (.frz ob (.dK kvs))){es:Array DictEntry}{ep:Nat}(hd:ob.data=.dict es ep):∃ws,KV kvs ws/\h.DictAt (Di P w) a ws ep:=by
 obtain⟨g,_,_,ws,kv,o,es',ep',g',c1,c2,c3⟩:=(show ObjOk P w H h a (.frz ob (.dK kvs)) from ok a _ e);rw [g] at g';cases g';rw [hd] at c2;cases c2;exact⟨ws,kv,ob,_,g,c1,hd,c3⟩
theorem KV.get{kvs:List (Af×V)}{ws:List (Af×Value)}(r:KV kvs ws){i:Nat}{p:Af×V}(e:kvs[i]? =some p):∃x,ws[i]? =some (p.1,x):=by
 have hl:=r.length;have hk:=r.keys;have hi:i < kvs.length:=(List.getElem?_eq_some_iff.mp e).1;obtain⟨q,hq⟩:∃q,ws[i]? =some q:=⟨_,List.getElem?_eq_getElem (show i < ws.length by omega)⟩;have e1:(kvs.map (·.1))[i]? =some p.1:=by rw [List.getElem?_map,e];rfl
 have e2:(ws.map (·.1))[i]? =some q.1:=by rw [List.getElem?_map,hq];rfl
 rw [hk,e2] at e1;have e3:q.1=p.1:=Option.some.inj e1;exact⟨q.2,by rw [hq,<-e3]⟩
theorem ba_2{P:Program}{w:World}{tg:Expr}(a it:Addr)(ob:Obj)(kvs:List (Af×V)){es:Array DictEntry}{ep:Nat}(hd:ob.data=.dict es ep):Turn P w K tg (Itk a ob kvs) [it] it (λi h=>h.IsKeyIter it a i kvs.length ep) where
 mem:=by simp
 obj:=λi h st b hb=>by
  have e:b=it:=by simpa using hb
  subst e;obtain⟨o,e,c,d⟩:=st;exact⟨o,e,λv z=>by rw [d] at z;cases z⟩
 keep:=λi h h' st k=>st.at λo e=>k it (by simp) o e
 item:=by
  intro X hP hw hK hc i zd s σ H E I hf st hg;subst hP hw hK;obtain⟨hq,hlt⟩:=hg;obtain⟨ws,kv,da⟩:=af_1 I.hok hq hd;obtain⟨f0,f1,f2,f3,f4,f5⟩:=hf it (by simp);obtain⟨p,hp⟩:∃p,kvs[i]? =some p:=⟨_,List.getElem?_eq_getElem hlt⟩;obtain⟨x,hx⟩:=KV.get kv hp;rw [kv.length] at st;refine wpAny_pyNext_dict_item st da hx λkey h' hk st' sb=> ?_;rw [<-kv.length] at st';have I1:Inv X zd σ H {s with heap:=h'}:=I.turned (t':=s.toks) (λb o hb e=>(sb.2 b hb).trans e) f0 f1 f3 f4 f5;obtain⟨o,e,c,d⟩:=id st';exact⟨key,rfl,bi_4 (s:={s with heap:=h'}) e c d (by decide) ⟨kV p.1,H,I1,co_0 hk,⟨rfl,p,hp,rfl⟩,st',λb hb=>(hf b hb).1⟩⟩
 done:=by
  intro X hP hw hK hc i zd s σ H E I hf st hg;subst hP hw hK;obtain⟨hq,hg⟩:=hg;subst hg;obtain⟨ws,kv,da⟩:=af_1 I.hok hq hd;obtain⟨f0,f1,f2,f3,f4,f5⟩:=hf it (by simp);rw [kv.length] at st;exact wpAny_pyNext_dict_end (I.ok.hd hc) st da (by simp) λh' eb=>⟨rfl,I.turned (t':=s.toks) (λb o hb e=>eb b o hb e) f0 f1 f3 f4 f5⟩
 self:=λ_ _ _ _ _ st h=>wpAny_pyIter_keyiter st h
def dr_5:D->R (List D)
 | .dic kds=> .ok (kds.map λp=>kD p.1)
 |_=> .no
def x_9(f:FE):FI:=λ δ=>(f δ).bind λw=>dr_5 w.d
section
variable{X:Cx}{EX:Ay}{pos:Pos}
theorem cg_9{elt iter tg:Expr}{ifs:List Expr}{scope:Scope}{N':List Str}{f0:FE}{fg:Eu}{p:FT}{f:FE}{m:Nat}(hx0:∀e s,¬X.xe e s)(hc:X.calm=true)(hi:ED X Bq iter f0)(hk:scope.kind=.function)(hb:u_1 scope.names X.env.scope.names X.N N'=true)
  (hm:N'.length=X.N.length + m)
  (hin:∀C s0 H0 fp pn,GC (Cj X scope (Bw X.env.cells scope.names []) N' C s0 H0 fp pn) Bq tg fg/\CTs (Cj X scope (Bw X.env.cells scope.names []) N' C s0 H0 fp pn) Bq ifs p/\ED (Cj X scope (Bw X.env.cells scope.names []) N' C s0 H0 fp pn) Bq elt f)
  (hs:∀x,foldedSetIterable iter X.env x=pure x:=by intro _;rfl):ED X Bq (.ListComp elt [⟨tg,iter,ifs,0⟩] scope pos) (Cc m (x_9 f0) fg p f):=by
 intro zd s σ H Q I q;obtain⟨G,δ,g0,h0,o⟩:=q;rw [eval_ListComp];have n:=x_6 I.ok hk hb
 
 obtain⟨w,kds,ew,ed⟩:∃w kds,f0 δ=.ok w/\w.d=.dic kds:=by
  unfold Cc x_9 at o;cases e:f0 δ with
  |ok w=>
   rw [e] at o;simp only [R.bind_ok] at o;cases e2:w.d with
   |dic kds=>exact⟨w,kds,rfl,e2⟩
   |_=>rw [e2] at o;exact False.elim o
  |ex x=>rw [e] at o;exact False.elim o
  |no=>rw [e] at o;exact False.elim o
 have ek:x_9 f0 δ=.ok (kds.map λp=>kD p.1):=by
  unfold x_9;rw [ew,R.bind_ok,ed];rfl
 let Z:Hp->Hp->Prop:=λG2 H2=>∃(a:Addr) (ob:Obj) (kvs:List (Af×V)) (G1 H1:Hp),Step G H G1 H1/\((G2=G1/\H2=H1)\/(G1 a=some (.dK kvs)/\(∀o v,X.H₀ a≠some (.frz o v))/\G2=upd G1 a (.frz ob (.dK kvs))/\H2=upd H1 a (.frz ob (.dK kvs))))
 refine wpAny_comprehension_free (use:=none) rfl hs n.clos n.kind n.names (ai_1 (RR:=λzp C=>compPost (model X.prog X.w) X.A X.xe none (EP X zd σ Q) zp C) hx0 (B:=az_5) hk hb hm hin I (Z:=Z) (fi:=x_9 f0) (δ:=δ) (λG2 H2 z=> ?_) (λ_ _ _ _ _ _=>hc) ?_ ?_ λDa C s1 G2 H2 G' H' vs rs e Io hm' fc z st h1 h2 h3 rl=> ?_)
 ·obtain⟨a,ob,kvs,G1,H1,st,z⟩:=z;rcases z with⟨rfl,rfl⟩|⟨ga,_,rfl,rfl⟩
  ·exact⟨st.gh,h0.mono st.gg⟩
  ·refine⟨q_4 st.gh _ _,(h0.mono st.gg).len,λi d e=> ?_⟩;obtain⟨v,e1,r⟩:=(h0.mono st.gg).get i d e;exact⟨v,e1,Has.tag ga (.inl rfl) (.inr ⟨ob,rfl⟩) r⟩
 ·refine Aw (hi zd s σ H (λv H1=>∃G1,Step G H G1 H1/\Has X.K G1 v w.d) I ⟨G,δ,g0,h0,by rw [ew];exact WP.intro λv G1 H1 st r=>⟨G1,st,r⟩⟩) λu s1 ⟨v,H1,I1,r1,G1,st,r⟩=> ?_;rw [ed] at r;cases r with
  |dic hh hk' r=>
   rename_i a kvs;cases r1;obtain⟨z,lo,ws,kv,o,es,ep,g1,c1,c2,c3⟩:=q_6 I1.hok (Same.rdD st.gh hh);have da:s1.heap.DictAt (Di X.prog X.w) a ws ep:=⟨o,es,g1,c1,c2,c3⟩;refine wpAny_pyIter_dict lo da ?_;have I2:=I1.kept (t':=s1.toks) (h':=s1.heap.push {cls:=.type "dict_keyiterator",data:=.fields #[.ref a,.int 0 0,.int ws.length 0,.int ep 0]}) λb o e=>Heap.get?_push_of_some _ e;have tn0:(s1.heap.push {cls:=.type "dict_keyiterator",data:=.fields #[.ref a,.int 0 0,.int ws.length 0,.int ep 0]}).IsKeyIter s1.heap.objs.size a 0 kvs.length ep:=⟨_,Heap.get?_push_size _ rfl,rfl,by rw [kv.length];rfl⟩;have zk:(kds.map λp=>kD p.1).length=kvs.length:=by
    have:=congrArg List.length hk';rw [List.length_map,List.length_map] at this;rw [List.length_map];exact this.symm
   have itd:∀G2:Hp,G2 a=some (.frz o (.dK kvs))->ItD X.K G2 (Itk a o kvs) (kds.map λp=>kD p.1):=λG2 ga G' H' s1' s2' i=>by
    have gH:H' a=some (.frz o (.dK kvs)):=s2' _ _ (s1' _ _ ga);refine⟨λd e=>⟨⟨gH, ?_⟩,λx H'' y=> ?_⟩,λe=>⟨gH,by omega⟩⟩
    ·have:=(List.getElem?_eq_some_iff.mp e).1;omega
    ·obtain⟨rfl,q,hq,rfl⟩:=y;refine⟨G',Step.refl s2', ?_⟩;rw [List.getElem?_map] at e;obtain⟨q',hq',rfl⟩:=Option.map_eq_some_iff.mp e;have e1:(kvs.map (·.1))[i]? =some q.1:=by rw [List.getElem?_map,hq];rfl
     have e2:(kds.map (·.1))[i]? =some q'.1:=by rw [List.getElem?_map,hq'];rfl
     rw [hk',e2] at e1;have e3:q'.1=q.1:=Option.some.inj e1;rw [e3];exact ar_7 _
   have fr:∀H2:Hp,H2 s1.heap.objs.size=none->∀b∈ [s1.heap.objs.size],u_9 X zd H2 b:=λH2 hn b hb=>by
    have e:b=s1.heap.objs.size:=by simpa using hb
    subst e;exact I1.fpOk (Nat.le_refl _) hn
   have free:=I1.hok.fresh (Nat.le_refl s1.heap.objs.size);rcases hh with hh|⟨o',hh⟩
   ·have hH:=st.gh _ _ hh;have nf:∀o v,X.H₀ a≠some (.frz o v):=λo v e=>by
     have:=I1.base.frzs a o v e;rw [hH] at this;cases this
    have ok:ObjOk X.prog X.w (upd H1 a (.frz o (.dK kvs))) (s1.heap.push {cls:=.type "dict_keyiterator",data:=.fields #[.ref a,.int 0 0,.int ws.length 0,.int ep 0]}) a (.frz o (.dK kvs)):=⟨Heap.get?_push_of_some _ g1,z,lo,ws,kv,o,es,ep,Heap.get?_push_of_some _ g1,c1,c2,c3⟩;have I3:=Inv.retag I2 hH (λ_ z=>by cases z) (λ_ z=>by cases z) (λ_ z=>by cases z) nf ok;refine⟨_,_,_,Itk a o kvs,_,_,upd G1 a (.frz o (.dK kvs)),rfl,I3,Turn.z (ba_2 a _ o kvs c2),tn0,fr _ ?_,ek,⟨a,o,kvs,G1,H1,st,.inr ⟨hh,nf,rfl,rfl⟩⟩,itd _ Ba⟩;rw [An (λz=>by rw [z,hH] at free;cases free)];exact free
   ·have hH:=st.gh _ _ hh;obtain⟨g2,_⟩:=(show ObjOk X.prog X.w H1 s1.heap a (.frz o' (.dK kvs)) from I1.hok a _ hH);rw [g1] at g2;cases g2;exact⟨_,_,_,Itk a o kvs,H1,_,G1,rfl,I2,Turn.z (ba_2 a _ o kvs c2),tn0,fr _ free,ek,⟨a,o,kvs,G1,H1,st,.inl ⟨rfl,rfl⟩⟩,itd _ hh⟩
 ·cases e:Cc m (x_9 f0) fg p f δ with
  |ok w=>trivial
  |ex x=>rw [e] at o;exact o
  |no=>rw [e] at o;exact o
 ·rw [e] at o;obtain⟨mm,hnm⟩:=hm';obtain⟨c0,c1,c2,c3,c4,c5⟩:=fc;obtain⟨a,ob,kvs,G1,H1,st1,z⟩:=z;rcases z with⟨rfl,rfl⟩|⟨ga,nf,rfl,rfl⟩
  ·exact⟨mm,hnm,λh' sb=>⟨.ref Da,H',Io.turned (t':=s1.toks) (λb ob hb e=>(sb.2 b hb).trans e) c0 c1 c3 c4 c5,rfl,o (.ref Da) (λb=>b=Da) G' H' (st1.trans st) (λa e=>by subst e;exact⟨st1.hh.free h1,h3,by rw [h2];simp⟩) (.list h2 rfl rl)⟩⟩
  ·have gF:G' a=some (.frz ob (.dK kvs)):=st.gg _ _ Ba;have hF:H' a=some (.frz ob (.dK kvs)):=st.hh _ _ Ba;have hH1:H1 a=some (.dK kvs):=st1.gh _ _ ga;have nDa:Da≠a:=λz=>by rw [z,Ba] at h1;cases h1
   have nC:C≠a:=λz=>by rw [z,hF] at c0;cases c0
   obtain⟨_,okd⟩:=(show ObjOk X.prog X.w H' s1.heap a (.frz ob (.dK kvs)) from Io.hok a _ hF);have I4:Inv X zd σ (upd H' a (.dK kvs)) s1:=Inv.retag Io hF (λ_ z=>by cases z) (λ_ z=>by cases z) (λ_ z=>by cases z) nf okd;have stA:Step G H (upd G' a (.dK kvs)) (upd H' a (.dK kvs)):=by
    refine⟨λb o z=> ?_,q_4 st.gh _ _,λb o z=> ?_,λb z1 z2=> ?_⟩
    ·have z1:=st1.hh _ _ z
     by_cases hb:b=a
     ·subst hb;rw [hH1] at z1;rw [Ba];exact z1
     ·rw [An hb];exact st.hh _ _ (by rw [An hb];exact z1)
    ·have z1:=st1.gg _ _ z
     by_cases hb:b=a
     ·subst hb;rw [ga] at z1;rw [Ba];exact z1
     ·rw [An hb];exact st.gg _ _ (by rw [An hb];exact z1)
    ·have g1:=st1.nw b z1 z2;have hb:b≠a:=λq=>by rw [q,ga] at g1;cases g1
     rw [An hb];exact st.nw b (by rw [An hb];exact g1) (by rw [An hb];exact λq=>z2 (st1.hh.free q))
   have h2':upd H' a (.dK kvs) Da=some (.lst vs):=by rw [An nDa];exact h2
   refine⟨mm,hnm,λh' sb=>⟨.ref Da,_,I4.turned (t':=s1.toks) (λb ob hb e=>(sb.2 b hb).trans e) (by rw [An nC];exact c0) c1 c3 c4 c5,rfl,o (.ref Da) (λb=>b=Da) _ _ stA (λx e=> ?_) (.list h2' rfl (HasL.tag gF (.inr ⟨ob,rfl⟩) (.inl rfl) rl))⟩⟩;subst e;refine⟨st1.hh.free (by rw [An nDa] at h1;exact h1),by rw [An nDa];exact h3,by rw [h2'];simp⟩
theorem cp_4{elt iter tg:Expr}{ifs:List Expr}{scope:Scope}{N':List Str}{f0:FE}{fg:Eu}{p:FT}{f:FE}{m:Nat}(hc:X.calm=true)(hi:ED X.nox Bq iter f0)(hk:scope.kind=.function)(hb:u_1 scope.names X.env.scope.names X.N N'=true)
  (hm:N'.length=X.N.length + m)
  (hin:∀C s0 H0 fp pn,GC (Cj X scope (Bw X.env.cells scope.names []) N' C s0 H0 fp pn) Bq tg fg/\CTs (Cj X scope (Bw X.env.cells scope.names []) N' C s0 H0 fp pn) Bq ifs p/\ED (Cj X scope (Bw X.env.cells scope.names []) N' C s0 H0 fp pn) Bq elt f)
  (hs:∀x,foldedSetIterable iter X.env x=pure x:=by intro _;rfl):ED X EX (.ListComp elt [⟨tg,iter,ifs,0⟩] scope pos) (Cc m (x_9 f0) fg p f):=
 PE.imp (PE.nox (cg_9 (X:=X.nox) (λ_ _ z=>z) hc hi hk hb hm hin hs)) λ σ H Q ⟨G,δ,g0,h0,o⟩=>by
  refine⟨G,δ,g0,h0, ?_⟩;cases e:Cc m (x_9 f0) fg p f δ with
  |ok w=>rw [e] at o;exact o
  |ex x=>exact(ae_5 e).elim
  |no=>rw [e] at o;exact o
end
theorem gcM{EX:Ay}{i:Nat}{x:Str}(hN:decide X.N.Nodup=true:=by rfl')(hi:X.N[i]? =some x:=by rfl)(hx:Fb X.env.scope x:=by first|exact Or.inl rfl|exact Or.inr rfl)
  (hf:X.fn x=true\/X.env.scope.names.lookup x=some .local:=by first|exact .inl rfl|exact .inr rfl|assumption):GC X EX (.Name x pos) (gC i):=cy_1 (of_decide_eq_true hN) hi hx hf
structure BaseI(K:Frag)(B f:Addr):Prop where
 sp:specialIn K (.ref B) "__getattribute__" =some (some (.builtin "type.__getattribute__"))
 rd:readsIn K B (.type "type")=true
 at_:findCls K (.ref B) (.type "type") "__init__" =some (.val (.ref f))
 kp:keepIn K (.ref f)=true
section
variable{X:Cx}{EX:Ay}{e:Expr}{es:List Expr}{x:Str}{pp zg pos:Pos}{cc:Bool}{k k' n:Nat}{ps:List Str}
end
theorem Step.wr{G H G' H':Hp}{a:Addr}{o:HO}(s:Step G H G' H')(n:H a=none)(g:G' a=none):Step G H G' (L2.upd H' a o):=
 ⟨λb u z=>by rw [An (Ef z n)];exact s.hh b u z,λb u z=>by rw [An (Ef z g)];exact s.gh b u z,s.gg,s.nw⟩
structure OInst(K:Frag)(C:Addr):Prop where
 pg:plainGet K C "__class__" =true
 hd:hasDictIn K C=true
 cl:findIn K (.ref C) "__class__" =some (some (.builtin "object.__class__"))
 gs:specialIn K (.builtin "object.__class__") "__get__" =some (some (.builtin "getset_descriptor.__get__"))
 tk:takesIn K (.builtin "object.__class__")=some true
 ob:mroIn K C (.type "object")=some true
section
variable{X:Cx}{EX:Ay}{zd:List (Addr×Obj)}{σ:Sg}{G H:Hp}{s:Shared}
variable{a:Expr}{fo:FE}{tb:List (Str×Bool)}{pp pos:Pos}
end
section
variable{X:Cx}{EX:Ay}{pos:Pos}
def gNs:List Nat->List D->SE->R SE
 | [],[],Δ=> .ok Δ
 |i::is,d::ds,Δ=>gNs is ds (Δ.set i (.sh d))
 |_,_,_=> .no
def ba_3(is:List Nat):FG:=λd Δ=>match d with
 | .tup ds=>gNs is ds Δ
 |_=> .no
theorem bz_8:∀(is:List Nat) (ds:List D) (Δ Δ':SE),gNs is ds Δ=.ok Δ'->ds.length=is.length
 | [],[],_,_,_=>rfl
 |_::is,_::ds,_,_,e=>congrArg Nat.succ (bz_8 is ds _ _ e)
 | [],_::_,_,_,e=>by cases e
 |_::_,[],_,_,e=>by cases e
def tGs(K:Frag)(is:List Nat):TGs:=λvs σ H Q=>∃H0 G0 G Δ O ds Δ',Ev K H0 G0 G H σ Δ O/\HasL K G vs ds/\gNs is ds Δ=.ok Δ'/\∀σ' G' H' O',Ev K H0 G0 G' H' σ' Δ' O'->Same G G'->Q σ' H'
theorem cp_5:PGs X [] (tGs X.K []):=λzd s σ H vs us Q I r ⟨H0,G0,G,Δ,O,ds,Δ',E,rl,e,q⟩=>ad_7 zd s σ H vs us Q I r (by
 cases rl with
 |nil=>cases e;exact⟨rfl,q σ G H O E (Same.refl _)⟩
 |cons _ _=>cases e)
theorem aa_4{i:Nat}{x:Str}{p:Pos}{ts:List Expr}{is:List Nat}(hN:X.N.Nodup)(h2:PGs X ts (tGs X.K is))(hi:X.N[i]? =some x:=by rfl)(hx:Fb X.env.scope x:=by first|exact Or.inl rfl|exact Or.inr rfl)
  (hf:X.fn x=true\/X.env.scope.names.lookup x=some .local:=by first|exact .inl rfl|exact .inr rfl|assumption)
  (hs:(assignEach (.Name x p::ts) X.env).map (·.2)=assign (.Name x p) X.env::(assignEach ts X.env).map (·.2):=by rfl):PGs X (.Name x p::ts) (tGs X.K (i::is)):=
 λzd s σ H vs us Q I r ⟨H0,G0,G,Δ,O,ds,Δ',E,rl,e,q⟩=>l_1 (l_6 hN hi hx hf) h2 hs zd s σ H vs us Q I r (by
  cases rl with
  |nil=>cases e
  |cons h rl=>exact⟨_,_,rfl,H0,G0,G,_,O,_,Δ',E.put h,rl,e,q⟩)
theorem HasL.len{G:Hp}:∀{vs:List V} {ds:List D},HasL K G vs ds->vs.length=ds.length
 |_,_,.nil=>rfl
 |_,_,.cons _ r=>congrArg Nat.succ r.len
theorem bz_9{es:List Expr}{is:List Nat}{k:Nat}(hc:X.calm=true)(h:PGs X es (tGs X.K is))(hn:(assignEach es X.env).length=is.length:=by rfl)(hst:(assignEach es X.env).findIdx? (·.1)=none:=by rfl):
  GD X EX (.Tuple es k pos) (ba_3 is):=
 PG.imp (bq_5 hc h hn hst) λv σ H Q ⟨H0,G0,G,Δ,O,d,E,r,q⟩=>by
  cases r with
  | @tup a vs ds h r=>
   simp only [ba_3] at q;cases e:gNs is ds Δ with
   |ok Δ'=>
    rw [e] at q;exact⟨_,_,rfl,Same.tupS E.st.gh h,r.len.trans (bz_8 _ _ _ _ e),H0,G0,G,Δ,O,_,Δ',E,r,e,q⟩
   |ex x=>rw [e] at q;exact q.elim
   |no=>rw [e] at q;exact q.elim
  |_=>exact False.elim q
end
section
variable{P:Program}{w:World}{K:Frag}{mg:Str->Option Value}{base:Heap}{cc:Bool}{k n:Nat}{ps:List Str}{st:Stmt}{Fn:List D->R W}
theorem bm_2{m q c:Str}{C:Addr}(xa:ClsAt K c C)(cl:Cls K C)(W:FnMet K C m q st)(ok:∀{f:Addr} {fd:FuncData},Fun K m q st f fd->FnX P w K mg base cc k f fd ps (Ca K (n + 1) Fn)/\Binds K fd ps []):MethD P w K mg base cc k n m c Fn:=by
 obtain⟨f,a,⟨fd,F⟩,kp,i⟩:=W;exact⟨⟨C,f,fd,ps,xa,cl,⟨a,i,kp⟩,(ok F).1,(ok F).2⟩⟩
theorem Dv{x:Str}{h:Heap}(X:K.In h)(G:h.Ns mainGlobals mg)(W:FnTop K x st)(ok:∀{f:Addr} {fd:FuncData},Fun K x x st f fd->FnX P w K mg base cc k f fd ps (Ca K ps.length Fn)/\Binds K fd ps []):FnD P w K mg base cc x k ps Fn:=by
 obtain⟨f,a,fd,F⟩:=W;exact dk_5 F (mg_of X G a) (ok F).2 (ok F).1
end
section
variable{X:Cx}{zd:List (Addr×Obj)}{σ:Sg}{H:Hp}{s:Shared}{a:Addr}{kvs:List (Af×V)}{k:Af}{u:Value}{A:Around}{E:Value->Shared->Prop}
theorem cp_6{x:V}{r:Value}{Q:Value->Shared->Prop}(I:Inv X zd σ H s)(e:H a=some (.dK kvs))(ry:RelV (kV k) u)(rx:RelV x r)(l:kvs.length < sizeLine)
  (h1:∀v w' s',Ch kvs k=some v->Inv X zd σ H s'->RelV v w'->Q w' s') (h2:Ch kvs k=none->∀s',Inv X zd σ (upd H a (.dK (El kvs k x))) s'->Q r s'):
  wpAny (model X.prog X.w) A (call (.builtin "dict.setdefault") [.ref a,u,r]) Q E s:=by
 obtain⟨z,hd,vs,rel,dd⟩:=bx_8 I.hok e;have hl:(El kvs k x).length<=sizeLine:=by have:=s_4 kvs k x;omega
 have hr:=rel.val k;refine call_meetsIn PySem.F.slot_dict_setdefault dd.typeIs PySem.F.entry_dict_setdefault (PySem.F.args_dict_setdefault_3 _ _ _) (PySem.kt_meets_setdefault (Di X.prog X.w) a (ae_0 ry) hd r) ⟨vs,dd,by rw [<-rel.length];exact z,λw' hw=> ?_,λhn h' dd' hs=> ?_⟩
 ·cases hv:Ch kvs k with
  |none=>
   have hn:valueAt vs k=none:=RelO.none_of (by rw [<-hv];exact hr);rw [hn] at hw;cases hw
  |some v=>
   obtain⟨w2,hw2,rv⟩:=RelO.some_of (v:=v) (o:=valueAt vs k) (by rw [<-hv];exact hr);rw [hw2] at hw;cases hw;exact h1 v w' _ hv (I.tok _) rv
 ·have he:∃q,h'.get? a=some q:=let⟨q,_,_,hq,_⟩:=dd';⟨q,hq⟩;refine h2 ?_ _ (ae_1 I (by rw [e];exact True.intro) hs he (bd_9 hl hd (rel.put k rx) dd'));cases hv:Ch kvs k with
  |none=>rfl
  |some v=>
   obtain⟨w2,hw2,rv⟩:=RelO.some_of (v:=v) (o:=valueAt vs k) (by rw [<-hv];exact hr);rw [hw2] at hn;cases hn
end
def dr_6(td ty tx:TE):TE:=λ σ H Q=>td σ H λx H1=>∃a,x=.ref a/\IsD H1 a/\ty σ H1 λy H2=>tx σ H2 λz H3=>∃kvs k,H3 a=some (.dK kvs)/\y=kV k/\kvs.length < sizeLine/\
 (∀v,Ch kvs k=some v->Q v H3)/\(Ch kvs k=none->Q z (upd H3 a (.dK (El kvs k z))))
section
variable{X:Cx}{EX:Ay}{o e f:Expr}{zg zf pos:Pos}{td ty tx:TE}
theorem da_5(ho:PE X o td)(he:PE X e ty)(hf:PE X f tx)(m:M2 X o "setdefault" zg e f zf):PE X (.Call (.Attribute o "setdefault" zg) [e,f] [] zf) (dr_6 td ty tx):=by
 intro zd s σ H Q I h;refine wpAny_Call_method m.base m.few m.line PySem.F.plainAttrs_dict PySem.F.slot_dict_setdefault PySem.F.type_dict_setdefault (Aw (ho zd s σ H _ I h) λu s1 ⟨x,H1,I1,rx,a,ex,d,q1⟩=> ?_);subst ex;obtain rfl:u=Value.ref a:=rx;obtain⟨t1,t2,_⟩:=bs_4 I1 d;refine⟨t1,t2, ?_⟩;rw [m.trees];refine Calls.callWith_builtin rfl (Calls.evalArgs_plain (Calls.spliced_cons (Aw (he zd s1 σ H1 _ I1 q1) λiv s2 ⟨y,H2,I2,ry,q2⟩=>
  Calls.spliced_cons (Aw (hf zd s2 σ H2 _ I2 q2) λfv s3 ⟨z,H3,I3,rz,kvs,k,ea,ey,l,q3,q4⟩=>Calls.spliced_nil ?_))))
 subst ey;exact cp_6 I3 ea ry rz l (λv w' s4 hv I4 rv=>⟨v,_,I4,rv,q3 v hv⟩) λhn s4 I4=>⟨z,_,I4,rz,q4 hn⟩
end
def sdK(zm:List (Af×Tn))(k:Af):List (Af×Tn):=match Bh zm k with
 |some _=>zm
 |none=>zm ++ [(k,.lst [])]
section
variable{X:Cx}{EX:Ay}{pos:Pos}
theorem bm_3{k:Af}:∀{kvs:List (Af×V)} {zm:List (Af×Tn)},kvs.map (·.1)=zm.map (·.1)->Bh zm k=none->Ch kvs k=none
 | [],_,_,_=>rfl
 |_::_,[],e,_=>by simp at e
 |(x,v)::kvs,(y,t)::zm,e,h=>by
  simp only [List.map_cons,List.cons.injEq] at e;obtain⟨e1,e2⟩:=e;subst e1
  by_cases q:x=k
  ·exfalso;unfold Bh at h;rw [List.find?_cons_of_pos (by simpa using q)] at h;cases h
  ·rw [h_1 q];refine bm_3 e2 ?_;unfold Bh at h⊢
   rwa [List.find?_cons_of_neg (by simpa using q)] at h
end
section
variable{P:Program}{w:World}{K:Frag}{mg:Str->Option Value}{base:Heap}{cc:Bool}{j k n:Nat}{ps:List Str}{st:Stmt}{Fn:List D->R W}{C:Addr}{m c q f:Str}
def XB(K:Frag)(C:Addr)(q f:Str)(st:Stmt):Prop:=keepIn K (.ref C)=true/\XCls K C/\findIn K (.ref C) f=some none/\∃(fI:Addr) (fd:FuncData) (o:Obj),XMk K C fI/\K.lookup fI=some o/\o.cls=.type "function" /\Fun K "__init__" q st fI fd
theorem XB.mk{fI N L:Addr}{nm qn:Str}{bs sub:List Value}{sn:List Str}{ab:Bool}{col:Option Bool}{dd od ddL odL odI an:Option Addr}{k0 k1 k2 k3 k5:Option Value}{oc c0 oL kV dc pm cd ct:Value}{es esL:Array DictEntry}{ep epL:Nat}{sl sl0 slL slI:Array (Option Value)}{cdL:ClassData}
  (lc:K.lookup C=some (excClassObj nm qn C N bs (.ref L::bmVE) true sn sub ab col dd k0 k1 k2 k3 k5 "ValueError.__new__")) (ln:K.lookup N=some ⟨oc,od,.dict es ep,sl⟩) (_:findIn K (.ref C) "__init__" =some (some (.ref fI))) (kn:l_2 es=true) (hi:nsFind es "__init__" =some (.ref fI))
  (ll:K.lookup L=some ⟨c0,ddL,.cls cdL,sl0⟩) (lm:K.lookup cdL.ns=some ⟨oL,odL,.dict esL epL,slL⟩) (km:l_2 esL=true) (hL:nsFind esL "__init__" =none) (sa:findIn K (.ref C) "__setattr__" =some (some (.builtin "object.__setattr__"))) (nf:findIn K (.ref C) f=some none) (kp:keepIn K (.ref C)=true)
  (l:K.lookup fI=some ⟨.type "function",odI,.func (fnOf "__init__" q (i_8 st) (Fk st) (Ci st) .none kV dc pm an cd ct),slI⟩) (cI:codeIn K cd q=true) (kI:keepIn K (.ref fI)=true):XB K C q f st:=
 ⟨kp,da_0 lc sa,nf,fI,_,_,dm_4 lc ln kn hi ll lm km hL,l,rfl,br_9 l cI kI⟩
theorem df_7(xa:ClsAt K c C)(gx:mg c=some (.ref C))(b:XB K C q f st)(ok:∀{fI:Addr} {fd:FuncData},Fun K "__init__" q st fI fd->XCls K C->findIn K (.ref C) f=some none->FnX P w K mg base false 1 fI fd ps (ai_6 C f)/\Binds K fd ps []):XC P w K mg base c f C:=by
 obtain⟨kp,xc,nf,fI,fd,o,mk,l,e,F⟩:=b;exact⟨xa,gx,kp,xc,fI,fd,ps,o,mk,l,e,(ok F xc nf).1,(ok F xc nf).2⟩
theorem XB0{N L:Addr}{nm qn:Str}{bs sub:List Value}{sn:List Str}{ab:Bool}{col:Option Bool}{dd od ddL odL:Option Addr}{k0 k1 k2 k3 k5:Option Value}{oc c0 oL:Value}{es esL:Array DictEntry}{ep epL:Nat}{sl sl0 slL:Array (Option Value)}{cdL:ClassData}
  (lc:K.lookup C=some (excClassObj nm qn C N bs (.ref L::bmVE) true sn sub ab col dd k0 k1 k2 k3 k5 "ValueError.__new__")) (ln:K.lookup N=some ⟨oc,od,.dict es ep,sl⟩) (kn:l_2 es=true) (hi:nsFind es "__init__" =none)
  (ll:K.lookup L=some ⟨c0,ddL,.cls cdL,sl0⟩) (lm:K.lookup cdL.ns=some ⟨oL,odL,.dict esL epL,slL⟩) (km:l_2 esL=true) (hL:nsFind esL "__init__" =none) (kp:keepIn K (.ref C)=true):keepIn K (.ref C)=true/\XMk0 K C:=⟨kp,da_4 lc ln kn hi ll lm km hL⟩
def XB9(K:Frag)(C:Addr):Prop:=keepIn K (.ref C)=true/\XMk0 K C
theorem cp_7(xa:ClsAt K c C)(gx:mg c=some (.ref C))(b:XB9 K C):XC0 K mg c C:=⟨xa,gx,b.1,b.2⟩
theorem OInst.mm(pg:plainGet K C Str.empty=true)(hd:hasDictIn K C=true)(cl:findIn K (.ref C) "__class__" =some (some (.builtin "object.__class__")))(gs:specialIn K (.builtin "object.__class__") "__get__" =some (some (.builtin "getset_descriptor.__get__")))(tk:takesIn K (.builtin "object.__class__")=some true)(ob:mroIn K C (.type "object")=some true):OInst K C:=⟨pg,hd,cl,gs,tk,ob⟩
theorem NoAttr.mk(h:findIn K (.ref C) f=some none):NoAttr K C f:=h
theorem mto{tb:List (Str×(List D->R W))}(d:MethD P w K mg base cc j n m c Fn)(r:MethT P w K mg base cc k n m tb)(hj:j<=k:=by decide):MethT P w K mg base cc k n m ((c,Fn)::tb):=.one d hj r
theorem mtn:MethT P w K mg base cc k n m []:=.nil
end
def Fo:HO->Bool
 | .ins _ _ _=>true
 | .dK _=>true
 |_=>false
mutual
def Tn.lends:Tn->Bool
 | .sh _=>true
 | .lst _=>false
 | .tup _=>false
 | .dic zm=>Tn.lendsK zm
 | .obj _ _ ts=>Tn.lendsL ts
def Tn.lendsL:List Tn->Bool
 | []=>true
 |t::ts=>t.lends && Tn.lendsL ts
def Tn.lendsK:List (Af×Tn)->Bool
 | []=>true
 |(_,t)::ts=>t.lends && Tn.lendsK ts
end
theorem Tn.lendsK_eq:∀zm:List (Af×Tn),Tn.lendsL (zm.map (·.2))=Tn.lendsK zm
 | []=>by simp only [List.map_nil,Tn.lendsL,Tn.lendsK]
 |(k,t)::zm=>by simp only [List.map_cons,Tn.lendsL,Tn.lendsK,Tn.lendsK_eq zm]
mutual
theorem Ow.lend{G H:Hp}:∀{v:V} {t:Tn} {S:AS},Ow K G H v t S->t.lends=true->∃S':AS,(∀b,S' b->S b/\∃o,H b=some o/\Fo o=true)/\Ow K G H v t S'
 |_,_,_,.sh h,_=>⟨λ_=>False,λ_ z=>z.elim,.sh h⟩
 |_,_,_,.lst h ha sub r,e=>by simp only [Tn.lends] at e;cases e
 |_,_,_,.tup h ha sub r,e=>by simp only [Tn.lends] at e;cases e
 |_,_,_,.dic (a:=a) h hk ha sub r,e=>by
  simp only [Tn.lends] at e;obtain⟨S1,f,r'⟩:=OwL.lend r (by rw [Tn.lendsK_eq];exact e);refine⟨λb=>b=a\/S1 b,λb hb=> ?_,.dic h hk (.inl rfl) (λb hb=>⟨.inr hb,(sub b (f b hb).1).2⟩) r'⟩;rcases hb with rfl|hb
  ·exact⟨ha,_,h,rfl⟩
  ·exact⟨(sub b (f b hb).1).1,(f b hb).2⟩
 |_,_,_,.obj (a:=a) hc h hl ha sub r,e=>by
  simp only [Tn.lends] at e;obtain⟨S1,f,r'⟩:=OwL.lend r e;refine⟨λb=>b=a\/S1 b,λb hb=> ?_,.obj hc h hl (.inl rfl) (λb hb=>⟨.inr hb,(sub b (f b hb).1).2⟩) r'⟩;rcases hb with rfl|hb
  ·exact⟨ha,_,h,rfl⟩
  ·exact⟨(sub b (f b hb).1).1,(f b hb).2⟩
theorem OwL.lend{G H:Hp}:∀{vs:List V} {ts:List Tn} {S:AS},OwL K G H vs ts S->Tn.lendsL ts=true->∃S':AS,(∀b,S' b->S b/\∃o,H b=some o/\Fo o=true)/\OwL K G H vs ts S'
 |_,_,_,.nil,_=>⟨λ_=>False,λ_ z=>z.elim,.nil⟩
 |_,_,_,.cons h r dj s1 s2,e=>by
  simp only [Tn.lendsL,Bool.and_eq_true] at e;obtain⟨A,fA,hA⟩:=Ow.lend h e.1;obtain⟨B,fB,hB⟩:=OwL.lend r e.2;exact⟨λb=>A b\/B b,λb hb=>hb.elim (λz=>⟨s1 b (fA b z).1,(fA b z).2⟩) λz=>⟨s2 b (fB b z).1,(fB b z).2⟩,.cons hA hB (λb x y=>dj b (fA b x).1 (fB b y).1) (λ_ z=> .inl z) λ_ z=> .inr z⟩
end
mutual
def Fs:D->Bool
 | .non=>true
 | .bl _=>true
 | .int _=>true
 | .str _=>true
 | .lst ds=>Fc ds
 | .tup ds=>Fc ds
 |_=>false
def Fc:List D->Bool
 | []=>true
 |d::ds=>Fs d && Fc ds
end
mutual
def m_7:Tn->Bool
 | .sh d=>Fs d
 | .lst ts=>k_7 ts
 | .tup ts=>k_7 ts
 | .dic zm=>v_7 zm
 | .obj _ _ ts=>k_7 ts
def k_7:List Tn->Bool
 | []=>true
 |t::ts=>m_7 t && k_7 ts
def v_7:List (Af×Tn)->Bool
 | []=>true
 |(_,t)::ts=>m_7 t && v_7 ts
end
theorem as_2:∀zm:List (Af×Tn),k_7 (zm.map (·.2))=v_7 zm
 | []=>by simp only [List.map_nil,k_7,v_7]
 |(k,t)::zm=>by simp only [List.map_cons,k_7,v_7,as_2 zm]
def y_0:W->Bool
 | .sh d=>Fs d
 | .ow d=>m_7 (Tn.of d)
 | .tr t=>m_7 t
open Classical in
def offQ(G:Hp)(S:AS):Hp:=λb=>if S b then none else G b
section
variable{K:Frag}{G H:Hp}{S:AS}
theorem offQ_sub:Same (offQ G S) G:=λb o e=>by
 unfold offQ at e
 split at e
 ·cases e
 ·exact e
theorem r_1{b:Addr}(h:¬S b):offQ G S b=G b:=by unfold offQ;rw [if_neg h]
theorem ao_8{b:Addr}(h:S b):offQ G S b=none:=by unfold offQ;rw [if_pos h]
theorem ai_8(hs:∀b o,S b->G b=some o->Fo o=true){b:Addr}{o:HO}(e:G b=some o)(n:Fo o=false):offQ G S b=some o:=by
 rw [r_1 λz=>by have:=hs b o z e;rw [n] at this;cases this];exact e
theorem ca_0(hs:∀b o,S b->G b=some o->Fo o=true){a:Addr}{u:HO}(h:Rd G a u)(n:Fo u=false):Rd (offQ G S) a u:=by
 rcases h with h|⟨o,h⟩
 ·exact .inl (ai_8 hs h n)
 ·exact .inr ⟨o,ai_8 hs h rfl⟩
mutual
theorem Has.offQ(hs:∀b o,S b->G b=some o->Fo o=true):∀{v:V} {d:D},Has K G v d->Fs d=true->Has K (L3.offQ G S) v d
 |_,_,.non,_=> .non
 |_,_,.bl b,_=> .bl b
 |_,_,.int i,_=> .int i
 |_,_,.str x,_=> .str x
 |_,_,.lst h r,e=>by
  simp only [Fs] at e;exact .lst (h.elim (λz=> .inl (ca_0 hs z rfl)) .inr) (HasL.offQ hs r e)
 |_,_,.tup h r,e=>by
  simp only [Fs] at e;exact .tup (h.elim (λz=> .inl (ca_0 hs z rfl)) .inr) (HasL.offQ hs r e)
 |_,_,.exn0 _ _,e=>by simp only [Fs] at e;cases e
 |_,_,.exn1 _ _ _ _ _,e=>by simp only [Fs] at e;cases e
 |_,_,.dic _ _ _,e=>by simp only [Fs] at e;cases e
 |_,_,.obj _ _ _ _,e=>by simp only [Fs] at e;cases e
theorem HasL.offQ(hs:∀b o,S b->G b=some o->Fo o=true):∀{vs:List V} {ds:List D},HasL K G vs ds->Fc ds=true->HasL K (L3.offQ G S) vs ds
 |_,_,.nil,_=> .nil
 |_,_,.cons h r,e=>by
  simp only [Fc,Bool.and_eq_true] at e;exact .cons (Has.offQ hs h e.1) (HasL.offQ hs r e.2)
end
mutual
theorem Ow.offQ(hs:∀b o,S b->G b=some o->Fo o=true):∀{v:V} {t:Tn} {S':AS},Ow K G H v t S'->m_7 t=true->Ow K (L3.offQ G S) H v t S'
 |_,_,_,.sh h,e=>by simp only [m_7] at e;exact .sh (h.offQ hs e)
 |_,_,_,.lst h ha sub r,e=>by simp only [m_7] at e;exact .lst h ha sub (OwL.offQ hs r e)
 |_,_,_,.tup h ha sub r,e=>by simp only [m_7] at e;exact .tup h ha sub (OwL.offQ hs r e)
 |_,_,_,.dic h hk ha sub r,e=>by simp only [m_7] at e;exact .dic h hk ha sub (OwL.offQ hs r (by rw [as_2];exact e))
 |_,_,_,.obj hc h hl ha sub r,e=>by simp only [m_7] at e;exact .obj hc h hl ha sub (OwL.offQ hs r e)
theorem OwL.offQ(hs:∀b o,S b->G b=some o->Fo o=true):∀{vs:List V} {ts:List Tn} {S':AS},OwL K G H vs ts S'->k_7 ts=true->OwL K (L3.offQ G S) H vs ts S'
 |_,_,_,.nil,_=> .nil
 |_,_,_,.cons h r dj s1 s2,e=>by
  simp only [k_7,Bool.and_eq_true] at e;exact .cons (Ow.offQ hs h e.1) (OwL.offQ hs r e.2) dj s1 s2
end
theorem ExcAt.offQ(hs:∀b o,S b->G b=some o->Fo o=true){cls:Value}{dx:Option Addr}{x:Xn}(h:ExcAt K G cls dx x)(e:Fc x.vs=true):ExcAt K (L3.offQ G S) cls dx x:=by
 cases h with
 |bare hc=>exact .bare hc
 |with_ hc hd hl r=>exact .with_ hc (ai_8 hs hd rfl) hl (r.offQ hs e)
end
def y_1(js:List Nat):Nat->SE->DE
 |_,[]=> []
 |n,s::Δ=>(if js.contains n=true then s.any else s.pub)::y_1 js (n + 1) Δ
def Ds(js:List Nat)(Δ:SE):DE:=y_1 js 0 Δ
theorem ba_4(js:List Nat):∀(Δ:SE) (n i:Nat),(y_1 js n Δ)[i]? =(Δ[i]?).map λs=>if js.contains (n + i)=true then s.any else s.pub
 | [],n,i=>by simp only [y_1,List.getElem?_nil,Option.map_none]
 |s::Δ,n,0=>by simp only [y_1,List.getElem?_cons_zero,Option.map_some,Nat.add_zero]
 |s::Δ,n,i + 1=>by
  simp only [y_1,List.getElem?_cons_succ];rw [ba_4 js Δ (n + 1) i,show n + 1 + i=n + (i + 1) by omega]
theorem ba_5(js:List Nat):∀(Δ:SE) (n:Nat),(y_1 js n Δ).length=Δ.length
 | [],_=>rfl
 |s::Δ,n=>by simp only [y_1,List.length_cons,ba_5 js Δ]
def m_8(js:List Nat)(Δ:SE):Bool:=js.all λj=>match Δ[j]? with
 |some s=>(match s.own with
  |some t=>t.lends
  |none=>true)
 |none=>true
section
variable{K:Frag}{H0:HB}{G0 G H:Hp}{σ:Sg}{Δ:SE}{O:OS}
theorem Sl.any_own{s:Sl}{d:D}(e:s.any=some d):s=.sh d\/∃t,s.own=some t/\t.d=d:=by
 cases s with
 |no=>cases e
 |sh d'=>cases e;exact .inl rfl
 |ow d'=>cases e;exact .inr ⟨_,rfl,Tn.of_d _⟩
 |tr t=>cases e;exact .inr ⟨_,rfl,rfl⟩
 |lk d'=>cases e;exact .inr ⟨_,rfl,Tn.of_d _⟩
 |lt t=>cases e;exact .inr ⟨_,rfl,rfl⟩
theorem Ev.lend(E:Ev K H0 G0 G H σ Δ O)(js:List Nat)(hl:m_8 js Δ=true):∃S:AS,(∀b,S b->∃i,O i b)/\(∀b,S b->∃o,H b=some o/\Fo o=true)/\HasS K (Cv G H S) σ (Ds js Δ):=by
 let S:AS:=λb=>∃(i:Nat) (s:Sl) (t:Tn) (v:V) (S':AS),Δ[i]? =some s/\s.own=some t/\σ[i]? =some (some v)/\(∀b,S' b->O i b/\∃o,H b=some o/\Fo o=true)/\S' b
 have hS:∀b,S b->∃i,O i b:=λb ⟨i,s,t,v,S',_,_,_,f,hb⟩=>⟨i,(f b hb).1⟩;have sg:Same G (Cv G H S):=λb o q=>by
  unfold Cv
  split
  ·rename_i hb;obtain⟨i,hi⟩:=hS b hb;rw [(E.out i b hi).1] at q;cases q
  ·exact q
 refine⟨S,hS,λb ⟨i,s,t,v,S',_,_,_,f,hb⟩=>(f b hb).2,by unfold Ds;rw [ba_5];exact E.len,λi d q=> ?_⟩;unfold Ds at q;rw [ba_4,Nat.zero_add] at q;obtain⟨s,es,q⟩:=Option.map_eq_some_iff.mp q
 split at q
 ·rename_i hj;rcases Sl.any_own q with rfl|⟨t,to,rfl⟩
  ·obtain⟨v,e1,r⟩:=E.sh i d es;exact⟨v,e1,r.mono sg⟩
  ·obtain⟨v,e1,w⟩:=E.ow i s t es to;have lt:t.lends=true:=by
    have:=List.all_eq_true.mp hl i (List.contains_iff_mem.mp hj);rw [es] at this;simp only [to] at this;exact this
   obtain⟨S',f,w'⟩:=w.lend lt;refine⟨v,e1,w'.has sg λb o hb hq=> ?_⟩;unfold Cv;rw [if_pos ⟨i,s,t,v,S',es,to,e1,f,hb⟩];exact hq
 ·cases s with
  |sh d'=>cases q;obtain⟨v,e1,r⟩:=E.sh i _ es;exact⟨v,e1,r.mono sg⟩
  |_=>cases q
theorem bm_4(E:Ev K H0 G0 G H σ Δ O){S:AS}(hS:∀b,S b->∃i,O i b):offQ (Cv G H S) S=G:=by
 funext b
 by_cases hb:S b
 ·rw [ao_8 hb];obtain⟨i,hi⟩:=hS b hb;exact(E.out i b hi).1.symm
 ·rw [r_1 hb];unfold Cv;rw [if_neg hb]
theorem cp_8(E:Ev K H0 G0 G H σ Δ O){S:AS}:Same (Cv G H S) H:=λb o q=>by
 unfold Cv at q
 split at q
 ·exact q
 ·exact E.st.gh b o q
theorem cp_9{S:AS}(hk:∀b,S b->∃o,H b=some o/\Fo o=true):∀b,S b->∃o,Cv G H S b=some o/\Fo o=true:=λb hb=>by
 obtain⟨o,e,l⟩:=hk b hb;exact⟨o,by unfold Cv;rw [if_pos hb];exact e,l⟩
end
theorem Step.offQ{G H G2 H2:Hp}{S:AS}(st:Step G H G2 H2):Step (L3.offQ G S) H (L3.offQ G2 S) H2:=
 ⟨st.hh,λb o q=>st.gh b o (offQ_sub b o q),λb o q=>by
  by_cases hb:S b
  ·rw [ao_8 hb] at q;cases q
  ·rw [r_1 hb] at q⊢;exact st.gg b o q,λb n z=>by
  by_cases hb:S b
  ·exact ao_8 hb
  ·rw [r_1 hb] at n⊢;exact st.nw b n z⟩
theorem Step.lentK{G H G2 H2:Hp}{S:AS}(st:Step G H G2 H2)(hk:∀b,S b->∃o,G b=some o/\Fo o=true):∀b,S b->∃o,G2 b=some o/\Fo o=true:=λb hb=>by
 obtain⟨o,e,l⟩:=hk b hb;exact⟨o,st.gg b o e,l⟩
theorem kin{G:Hp}{S:AS}(hk:∀b,S b->∃o,G b=some o/\Fo o=true):∀b o,S b->G b=some o->Fo o=true:=λb o hb q=>by
 obtain⟨o',e,l⟩:=hk b hb;rw [e] at q;cases q;exact l
def dr_7(EX:EXT):EXT:=⟨λx G H=>Fc x.vs=true/\∃S:AS,(∀b,S b->∃o,G b=some o/\Fo o=true)/\EX.p x (offQ G S) H,
 λ_ _ _ _ _ st ⟨pl,S,k,q⟩=>⟨pl,S,st.lentK k,EX.mono _ _ _ _ _ st.offQ q⟩⟩
def bf_9(EX:Ay):Ay:=λ σ=>dr_7 (EX σ)
theorem Lk.lend{EX:Ay}(lk:Lk X EX):Lk X (bf_9 EX):=λzd σ H s e s' I c=>by
 obtain⟨a,C,dx,T,H',h1,h2,h3,h4,h5,h6,h7,h8,h9,h10,x,G,sg,ea,pl,S,k,q⟩:=c;exact lk zd σ H s e s' I ⟨a,C,dx,T,H',h1,h2,h3,h4,h5,h6,h7,h8,h9,h10,x,offQ G S,offQ_sub.trans sg,ea.offQ (kin k) pl,q⟩
section
variable{K:Frag}{EX:Ay}{H0:HB}{G0 G H:Hp}{σ:Sg}{Δ:SE}{O:OS}{f:FE}{Q:VK}{js:List Nat}{w:W}{x:Xn}
theorem ca_1(E:Ev K H0 G0 G H σ Δ O)(hl:m_8 js Δ=true)(e:f (Ds js Δ)=.ok w)(pw:y_0 w=true)(q:WP K G H w Q):tD K EX f σ H Q:=by
 obtain⟨S,hS,hk,hs⟩:=E.lend js hl;have k1:=cp_9 (G:=G) hk;refine⟨Cv G H S,Ds js Δ,cp_8 E,hs, ?_⟩;rw [e];have st':∀{G2 H2:Hp},Step (Cv G H S) H G2 H2->Step G H (offQ G2 S) H2:=λst=>by
  have:=st.offQ (S:=S);rw [bm_4 E hS] at this;exact this
 cases w with
 |sh d=>exact λv G2 H2 st r=>q v (offQ G2 S) H2 (st' st) (r.offQ (kin (st.lentK k1)) pw)
 |ow d=>exact λv S' G2 H2 st fr t=>q v S' (offQ G2 S) H2 (st' st) (λa ha=>⟨(fr a ha).1,offQ_sub.free (fr a ha).2.1,(fr a ha).2.2⟩) (t.offQ (kin (st.lentK k1)) pw)
 |tr t=>exact λv S' G2 H2 st fr t=>q v S' (offQ G2 S) H2 (st' st) (λa ha=>⟨(fr a ha).1,offQ_sub.free (fr a ha).2.1,(fr a ha).2.2⟩) (t.offQ (kin (st.lentK k1)) pw)
theorem ca_2(E:Ev K H0 G0 G H σ Δ O)(hl:m_8 js Δ=true)(e:f (Ds js Δ)=.ex x)(pl:Fc x.vs=true)(q:(EX σ).p x G H):tD K (bf_9 EX) f σ H Q:=by
 obtain⟨S,hS,hk,hs⟩:=E.lend js hl;refine⟨Cv G H S,Ds js Δ,cp_8 E,hs, ?_⟩;rw [e];exact⟨pl,S,cp_9 hk,by rw [bm_4 E hS];exact q⟩
end
inductive FM where
 |ok (d:D) (Δ:SE)|ex (x:Xn) (Δ:SE)|no
def OutM(K:Frag)(EX:Ay)(H0:HB)(G0 G1:Hp)(σ:Sg)(r:FM)(Q:VK):Prop:=match r with
 | .ok d Δ=>∀v G H O,Ev K H0 G0 G H σ Δ O->Same G1 G->Has K G v d->Q v H
 | .ex x Δ=>∀G H O,Ev K H0 G0 G H σ Δ O->Same G1 G->(EX σ).p x G H
 | .no=>False
theorem OutM.mono{EX:Ay}{H0:HB}{G0 G1 G2:Hp}{σ:Sg}{r:FM}{Q:VK}(s:Same G1 G2)(h:OutM K EX H0 G0 G1 σ r Q):OutM K EX H0 G0 G2 σ r Q:=by
 cases r with
 |ok d Δ=>exact λv G H O E q r=>h v G H O E (s.trans q) r
 |ex x Δ=>exact λG H O E q=>h G H O E (s.trans q)
 |no=>exact h
def tM(K:Frag)(EX:Ay)(g:SE->FM):TE:=λ σ H Q=>∃H0 G0 G Δ O,Ev K H0 G0 G H σ Δ O/\OutM K EX H0 G0 G σ (g Δ) Q
abbrev EM(X:Cx)(EX:Ay)(e:Expr)(g:SE->FM):Prop:=PE X e (tM X.K EX g)
def tMt(K:Frag)(EX:Ay)(g:SE->FM):TT:=λ σ H Q=>tM K EX g σ H λv H'=>∃b,v=.bl b/\Q b H'
abbrev TM(X:Cx)(EX:Ay)(e:Expr)(g:SE->FM):Prop:=PT X e (tMt X.K EX g)
def r_2(js:List Nat)(f:FE):SE->FM:=λ Δ=>if m_8 js Δ=true then(match f (Ds js Δ) with
 | .ok w=>if y_0 w=true then .ok w.d Δ else .no
 | .ex x=>if Fc x.vs=true then .ex x Δ else .no
 | .no=> .no) else .no
def mOp(r:D->D->R W)(g g2:SE->FM):SE->FM:=λ Δ=>match g Δ with
 | .ok d1 Δ1=>(match g2 Δ1 with
  | .ok d2 Δ2=>(match r d1 d2 with
   | .ok w=> .ok w.d Δ2
   |_=> .no)
  |r=>r)
 |r=>r
section
variable{X:Cx}{EX:Ay}{a b e:Expr}{f:FE}{p:FT}{g g2:SE->FM}{pos:Pos}
theorem af_2(js:List Nat)(he:ED X (bf_9 EX) e f):EM X EX e (r_2 js f):=PE.imp he λ σ H Q ⟨H0,G0,G,Δ,O,E,q⟩=>by
 unfold r_2 at q
 split at q
 ·rename_i hl;cases e1:f (Ds js Δ) with
  |ok w=>
   simp only [e1] at q
   split at q
   ·rename_i pw;exact ca_1 E hl e1 pw (WP.intro λv G' H' st r=>q v G' H' O (E.grow st) st.gg r)
   ·exact q.elim
  |ex x=>
   simp only [e1] at q
   split at q
   ·rename_i pl;exact ca_2 E hl e1 pl (q G H O E (Same.refl _))
   ·exact q.elim
  |no=>simp only [e1] at q;exact q.elim
 ·exact q.elim
theorem dr_8{r:D->D->R W}{σ:Sg}{Q:VK}(q:tM K EX (mOp r g g2) σ H Q):tOp (rD K r) (tM K EX g) (tM K EX g2) σ H Q:=by
 obtain⟨H0,G0,G,Δ,O,E,q⟩:=q;refine⟨H0,G0,G,Δ,O,E, ?_⟩;unfold mOp at q;cases e1:g Δ with
 |ok d1 Δ1=>
  simp only [e1] at q;intro v1 G1 H1 O1 E1 s1 r1;refine⟨H0,G0,G1,Δ1,O1,E1, ?_⟩;cases e2:g2 Δ1 with
  |ok d2 Δ2=>
   simp only [e2] at q;intro v2 G2 H2 O2 E2 s2 r2;cases e3:r d1 d2 with
   |ok w=>
    simp only [e3] at q;refine⟨EX0,G2,d1,d2,E2.st.gh,r1.mono s2,r2, ?_⟩;rw [e3];exact WP.intro λv3 G3 H3 st r3=>q v3 G3 H3 O2 (E2.grow st) (s1.trans (s2.trans st.gg)) r3
   |ex x=>simp only [e3] at q;exact q.elim
   |no=>simp only [e3] at q;exact q.elim
  |ex x Δ2=>simp only [e2] at q;exact λG2 H2 O2 E2 s2=>q G2 H2 O2 E2 (s1.trans s2)
  |no=>simp only [e2] at q;exact q.elim
 |ex x Δ1=>simp only [e1] at q;exact q
 |no=>simp only [e1] at q;exact q.elim
theorem dm_6{op:CmpOp}{r:D->D->R W}(ho:Ea X (compareOp op) r)(ha:EM X EX a g)(hb:EM X EX b g2)(hm:behindInMarks op b=false):TM X EX (.Compare a [op] [b] pos) (mOp r g g2):=
 PT.imp (bw_9 ho ha hb hm) λ σ H Q q=>dr_8 q
end
def m_9(i:Nat)(g:SE->FM):FS:=λ Δ=>match g Δ with
 | .ok d Δ1=> .nx (Δ1.set i (.sh d))
 | .ex x Δ1=> .ex x Δ1
 | .no=> .no
def l_0(g:SE->FM):FS:=λ Δ=>match g Δ with
 | .ok _ Δ1=> .nx Δ1
 | .ex x Δ1=> .ex x Δ1
 | .no=> .no
def y_2(g:SE->FM):FS:=λ Δ=>match g Δ with
 | .ok d Δ1=> .rv d Δ1
 | .ex x Δ1=> .ex x Δ1
 | .no=> .no
def sIfM(t:SE->FM)(g h:FS):FS:=λ Δ=>match t Δ with
 | .ok (.bl b) Δ1=>if b=true then g Δ1 else h Δ1
 | .ex x Δ1=> .ex x Δ1
 |_=> .no
section
variable{X:Cx}{EX:Ay}{e:Expr}{g:SE->FM}{g1 g2:FS}{pos:Pos}
theorem aa_5{i:Nat}{x:Str}{pos':Pos}(he:EM X EX e g)(hN:X.N.Nodup)(hi:X.N[i]? =some x:=by rfl)(hx:Fb X.env.scope x:=by first|exact Or.inl rfl|exact Or.inr rfl)(hs:swapsWith e (some (.Name x pos')) pos.line X.env=pure false:=by rfl)
  (hf:X.fn x=true\/X.env.scope.names.lookup x=some .local:=by first|exact .inl rfl|exact .inr rfl|assumption):SD X EX (.Assign [.Name x pos'] e pos) (m_9 i g):=
 PS.imp (bq_6 hN hi hx he hs hf) λD σ H ⟨H0,G0,G,Δ,O,E,q⟩=>by
  refine⟨H0,G0,G,Δ,O,E, ?_⟩;unfold m_9 at q;cases e1:g Δ with
  |ok d Δ1=>simp only [e1] at q;exact λv G1 H1 O1 E1 s1 r1=>q _ G1 H1 O1 (E1.put r1) s1
  |ex x Δ1=>simp only [e1] at q;exact λG1 H1 O1 E1 s1=>q σ G1 H1 O1 E1 s1
  |no=>simp only [e1] at q;exact q.elim
theorem af_3(he:EM X EX e g)(hs:swapsWith e none pos.line X.env=pure false:=by rfl):SD X EX (.Expr e pos) (l_0 g):=
 PS.imp (u_8 he hs) λD σ H ⟨H0,G0,G,Δ,O,E,q⟩=>by
  refine⟨H0,G0,G,Δ,O,E, ?_⟩;unfold l_0 at q;cases e1:g Δ with
  |ok d Δ1=>simp only [e1] at q;exact λv G1 H1 O1 E1 s1 r1=>q σ G1 H1 O1 E1 s1
  |ex x Δ1=>simp only [e1] at q;exact λG1 H1 O1 E1 s1=>q σ G1 H1 O1 E1 s1
  |no=>simp only [e1] at q;exact q.elim
theorem ao_9(he:EM X EX e g):SD X EX (.Return (some e) pos) (y_2 g):=
 PS.imp (bq_4 he) λD σ H ⟨H0,G0,G,Δ,O,E,q⟩=>by
  refine⟨H0,G0,G,Δ,O,E, ?_⟩;unfold y_2 at q;cases e1:g Δ with
  |ok d Δ1=>simp only [e1] at q;exact λv G1 H1 O1 E1 s1 r1=>q v σ G1 H1 O1 E1 s1 r1
  |ex x Δ1=>simp only [e1] at q;exact λG1 H1 O1 E1 s1=>q σ G1 H1 O1 E1 s1
  |no=>simp only [e1] at q;exact q.elim
theorem dm_7{c:Expr}{as bs:List Stmt}(hc:TM X EX c g)(ha:BD X EX as g1)(hb:BD X EX bs g2):SD X EX (.If c as bs pos) (sIfM g g1 g2):=
 PS.imp (de_7 hc ha hb) λD σ H ⟨H0,G0,G,Δ,O,E,q⟩=>by
  refine⟨H0,G0,G,Δ,O,E, ?_⟩;unfold sIfM at q;cases e1:g Δ with
  |ok d Δ1=>
   simp only [e1] at q;cases d with
   |bl b=>
    intro v G1 H1 O1 E1 s1 r1;cases r1;refine⟨b,rfl, ?_⟩;cases b with
    |true=>rw [if_pos rfl];exact⟨H0,G0,G1,Δ1,O1,E1,Fin.mono s1 q⟩
    |false=>rw [if_neg Bool.false_ne_true];exact⟨H0,G0,G1,Δ1,O1,E1,Fin.mono s1 q⟩
   |_=>exact q.elim
  |ex x Δ1=>simp only [e1] at q;exact λG1 H1 O1 E1 s1=>q σ G1 H1 O1 E1 s1
  |no=>simp only [e1] at q;exact q.elim
end
inductive RR where
 |ok (d:D) (t:Tn)|ex (x:Xn) (t:Tn)|no
def y_3(n:Nat)(t:Tn)(ds:List D):SE:=.lt t::(ds.map Sl.sh ++ List.replicate (n - (ds.length + 1)) .no)
def u_4(n:Nat)(g:FS)(t:Tn)(ds:List D):RR:=match g (y_3 n t ds) with
 | .nx (.lt t'::_)=> .ok .non t'
 | .rv d (.lt t'::_)=> .ok d t'
 | .ex x (.lt t'::_)=> .ex x t'
 |_=> .no
def spR(K:Frag)(n:Nat)(F:Tn->List D->RR):Sp:=λvs H Q E=>∃a0 vs0,vs=.ref a0::vs0/\vs0.length=n/\∃G ds t S,Same G H/\HasL K G vs0 ds/\Ow K G H (.ref a0) t S/\(∀a,S a->G a=none/\H a≠none)/\
 match F t ds with
 | .ok d t'=>∀v G' H' S',MStep2 S G H G' H'->(∀a,S' a->(S a\/H a=none)/\G' a=none/\H' a≠none)->Ow K G' H' (.ref a0) t' S'->Has K G' v d->Q v H'
 | .ex x t'=>∀cls dx G' H' S',MStep2 S G H G' H'->(∀a,S' a->(S a\/H a=none)/\G' a=none/\H' a≠none)->Ow K G' H' (.ref a0) t' S'->ExcAt K G' cls dx x->E cls dx H'
 | .no=>False
open Classical in
theorem fn_R{c:Bool}{P:Program}{w:World}{x qual:Str}{st:Stmt}{f:Addr}{N ps:List Str}{k n:Nat}{g:FS}(F:Fun K x qual st f fd)(S:FnScope N ps (Ci st))(hn:ps.length=n + 1)(hle:ps.length<=N.length)
  (zj:∀(zq:Value) (A:Around) (outer:List Env) (s:Shared) (H:Hp) (E:XK),RoomC c k (A.deeper (envOfC qual (Ci st) s.heap.objs.size f zq))->
   BD (cxN c P w K mg base N qual (Ci st) f zq A outer s H E) (λ_=>EXof K E) (Fk st) g):FnX P w K mg base c (k + 1) f fd ps (spR K n (u_4 N.length g)):=by
 refine Fun.okX F S (λvs H Q E h=> ?_) λzq A outer s H vs Q E hr h=>⟨_,zj zq A outer s H E hr, ?_⟩
 ·obtain⟨a0,vs0,rfl,hl,_⟩:=h;rw [List.length_cons,hl,hn]
 obtain⟨a0,vs0,rfl,hl,G,ds,t,S0,g0,r,tw,out,q⟩:=h;have i0:Same (λb=>if S0 b then none else H b) H:=λb o e=>by
  simp only at e
  split at e
  ·cases e
  ·exact e
 have E0:=ba_0 (N:=N) (b:=λ_=>a0) (v0:=.ref a0) g0 i0 r (by rw [hl];omega);have hs:(L2.start N (.ref a0::vs0))[0]? =some (some (.ref a0)):=rfl;have E1:=E0.putO (i:=0) (z:=.lt t) (v:=.ref a0) (S:=S0) (λa ha=>⟨by simp only;rw [if_pos ha],(out a ha).1,(out a ha).2⟩) rfl (λ_ z=>by cases z) tw (λj a ha=>ha.elim) (λ_ _=>rfl);rw [u_0 hs] at E1;refine⟨⟨λb=>if S0 b then none else H b,λ_=>a0⟩,G,G,_,_,E1, ?_⟩;have e2:(Sl.no::(ds.map Sl.sh ++ List.replicate (N.length - (ds.length + 1)) .no)).set 0 (.lt t)=y_3 N.length t ds:=rfl;rw [e2];have fin:∀{Δ:SE} {t':Tn} {σ:Sg} {G' H':Hp} {O:OS},Ev K ⟨λb=>if S0 b then none else H b,λ_=>a0⟩ G G' H' σ (.lt t'::Δ) O->MStep2 S0 G H G' H'/\(∀a,O 0 a->(S0 a\/H a=none)/\G' a=none/\H' a≠none)/\Ow K G' H' (.ref a0) t' (O 0):=λ{Δ t' σ G' H' O} E'=>by
  obtain⟨v,s1,t3⟩:=E'.ow 0 (.lt t') t' rfl rfl;have s2:=E'.lt 0 t' rfl;rw [s1] at s2;cases s2;refine⟨⟨λb o nb z=>E'.st.hh b o (by simp only;rw [if_neg nb];exact z),E'.st.gh,E'.st.gg,λb nb z1 z2=>E'.st.nw b z1 (by simp only;rw [if_neg nb];exact z2)⟩,λa ha=> ?_,t3⟩;obtain⟨k1,k2,k3⟩:=E'.out _ a ha;refine⟨?_,k1,k3⟩;simp only at k2
  split at k2
  ·rename_i z;exact .inl z
  ·exact .inr k2
 unfold u_4 at q;cases e:g (y_3 N.length t ds) with
 |nx Δ=>
  rw [e] at q;cases Δ with
  |nil=>exact q.elim
  |cons s Δ=>
   cases s with
   |lt t'=>
    intro σ G' H' O E' _;obtain⟨ms,fr,tt⟩:=fin E';exact q .non G' H' _ ms fr tt .non
   |_=>exact q.elim
 |rv d Δ=>
  rw [e] at q;cases Δ with
  |nil=>exact q.elim
  |cons s Δ=>
   cases s with
   |lt t'=>
    intro v σ G' H' O E' _ rv;obtain⟨ms,fr,tt⟩:=fin E';exact q v G' H' _ ms fr tt rv
   |_=>exact q.elim
 |ex x Δ=>
  rw [e] at q;cases Δ with
  |nil=>exact q.elim
  |cons s Δ=>
   cases s with
   |lt t'=>
    intro σ G' H' O E' _ cls dx G2 H2 st2 ea;obtain⟨ms,fr,tt⟩:=fin (E'.grow st2);exact q cls dx G2 H2 _ ms fr tt ea
   |_=>exact q.elim
 |rt w=>rw [e] at q;exact q.elim
 |bk Δ=>rw [e] at q;exact q.elim
 |ct Δ=>rw [e] at q;exact q.elim
 |no=>rw [e] at q;exact q.elim
def FnRd(P:Program)(w:World)(K:Frag)(mg:Str->Option Value)(base:Heap)(c:Bool)(x:Str)(k n:Nat)(ps:List Str)(F:Tn->List D->RR):Prop:=
 ∃f fd,FnX P w K mg base c k f fd ps (spR K n F)/\mg x=some (.ref f)/\keepIn K (.ref f)=true/\Binds K fd ps []
theorem dm_8{c:Bool}{P:Program}{w:World}{x:Str}{st:Stmt}{f:Addr}{ps:List Str}{k n:Nat}{Fn:Tn->List D->RR}(F:Fun K x x st f fd)(hm:mg x=some (.ref f))(hb:Binds K fd ps [])
  (ok:FnX P w K mg base c k f fd ps (spR K n Fn)):FnRd P w K mg base c x k n ps Fn:=⟨f,fd,ok,hm,F.kp,hb⟩
structure MethR(P:Program)(w:World)(K:Frag)(mg:Str->Option Value)(base:Heap)(cc:Bool)(k n:Nat)(m c:Str)(F:Tn->List D->RR):Prop where
 ex:∃C f fd ps,ClsAt K c C/\Cls K C/\Meth K C m f/\FnX P w K mg base cc k f fd ps (spR K n F)/\Binds K fd ps []
def tMa(K:Frag)(EX:Ay)(ga:SE->R (List D)):TA:=λ σ H Q=>∃H0 G0 G Δ O,Ev K H0 G0 G H σ Δ O/\match ga Δ with
 | .ok ds=>∀vs G' H',Ev K H0 G0 G' H' σ Δ O->Same G G'->HasL K G' vs ds->Q vs H'
 | .ex x=>∀G' H',Ev K H0 G0 G' H' σ Δ O->Same G G'->(EX σ).p x G' H'
 | .no=>False
abbrev AM(X:Cx)(EX:Ay)(es:List Expr)(ga:SE->R (List D)):Prop:=PA X es (tMa X.K EX ga)
def Dh:SE->R (List D):=λ_=> .ok []
def ak_8(js:List Nat)(f:FE)(ga:SE->R (List D)):SE->R (List D):=λ Δ=>if m_8 js Δ=true then(match f (Ds js Δ) with
 | .ok w=>if y_0 w=true then(match ga Δ with
  | .ok ds=> .ok (w.d::ds)
  | .ex x=> .ex x
  | .no=> .no) else .no
 | .ex x=>if Fc x.vs=true then .ex x else .no
 | .no=> .no) else .no
section
variable{X:Cx}{EX:Ay}{e:Expr}{es:List Expr}{f:FE}{ga:SE->R (List D)}{x:Str}{pp pos:Pos}{c:Bool}{k k' n:Nat}{ps:List Str}
theorem ad_0:AM X EX [] Dh:=PA.imp o_9 λ σ H Q ⟨H0,G0,G,Δ,O,E,q⟩=>q [] G H E (Same.refl _) .nil
theorem da_6(js:List Nat)(ha:ED X (bf_9 EX) e f)(hr:AM X EX es ga)(hs:starEach (e::es) X.env=(false,eval e X.env)::starEach es X.env:=by rfl):AM X EX (e::es) (ak_8 js f ga):=
 PA.imp (i_7 ha hr hs) λ σ H Q ⟨H0,G0,G,Δ,O,E,q⟩=>by
  unfold ak_8 at q
  by_cases hl:m_8 js Δ=true
  ·rw [if_pos hl] at q;cases e1:f (Ds js Δ) with
   |ok w=>
    simp only [e1] at q
    by_cases pw:y_0 w=true
    ·rw [if_pos pw] at q;refine ca_1 E hl e1 pw (WP.intro λv G1 H1 st r=>⟨H0,G0,G1,Δ,O,E.grow st, ?_⟩);cases e2:ga Δ with
     |ok ds=>simp only [e2] at q;exact λvs G2 H2 E2 s2 r2=>q (v::vs) G2 H2 E2 (st.gg.trans s2) (.cons (r.mono s2) r2)
     |ex x=>simp only [e2] at q;exact λG2 H2 E2 s2=>q G2 H2 E2 (st.gg.trans s2)
     |no=>simp only [e2] at q
    ·rw [if_neg pw] at q;exact q.elim
   |ex x=>
    simp only [e1] at q
    by_cases pl:Fc x.vs=true
    ·rw [if_pos pl] at q;exact ca_2 E hl e1 pl (q G H E (Same.refl _))
    ·rw [if_neg pl] at q;exact q.elim
   |no=>simp only [e1] at q
  ·rw [if_neg hl] at q;exact q.elim
def goR(i:Nat)(lk:Bool)(Δ:SE):RR->FM
 | .ok d t'=> .ok d (Δ.set i (Sl.mk lk t'))
 | .ex x t'=> .ex x (Δ.set i (Sl.mk lk t'))
 | .no=> .no
def r_3(i n:Nat)(F:Tn->List D->RR)(ga:SE->R (List D)):SE->FM:=λ Δ=>match(Δ[i]?).bind Sl.tree with
 |some (.obj c ns ts,lk)=>(match ga Δ with
  | .ok ds=>if ds.length=n then goR i lk Δ (F (.obj c ns ts) ds) else .no
  | .ex x=> .ex x Δ
  | .no=> .no)
 |_=> .no
def o_3(i n:Nat)(m c:Str)(F:Tn->List D->RR)(ga:SE->R (List D)):SE->FM:=λ Δ=>match(Δ[i]?).bind Sl.tree with
 |some (.obj c' ns ts,lk)=>if c'=c/\ns.contains m=false then(match ga Δ with
  | .ok ds=>if ds.length=n then goR i lk Δ (F (.obj c' ns ts) ds) else .no
  | .ex x=> .ex x Δ
  | .no=> .no) else .no
 |_=> .no
theorem cq_1{H0:HB}{G0 G G1 H1:Hp}{σ:Sg}{Δ:SE}{O:OS}{i:Nat}{s:Sl}{c:Str}{ns:List Str}{ts:List Tn}{lk:Bool}{F:Tn->List D->RR}{a0:Addr}{vs:List V}{ds:List D}{Q:VK}
  (e1:Δ[i]? =some s) (etr:s.tree=some (.obj c ns ts,lk)) (s1:σ[i]? =some (some (.ref a0))) (E1:Ev K H0 G0 G1 H1 σ Δ O) (sg:Same G G1) (r:HasL K G1 vs ds) (hl:ds.length=n) (q:OutM K EX H0 G0 G σ (goR i lk Δ (F (.obj c ns ts) ds)) Q):spR K n F (.ref a0::vs) H1 Q (EXE K (EX σ)):=by
 obtain⟨v0,s1',t0⟩:=E1.ow i _ _ e1 (Sl.tree_own etr);rw [s1] at s1';cases s1';refine⟨a0,vs,rfl,by rw [r.length];exact hl,G1,ds,.obj c ns ts,O i,E1.st.gh,r,t0,λa ha=>⟨(E1.out i a ha).1,(E1.out i a ha).2.2⟩, ?_⟩;cases ef:F (.obj c ns ts) ds with
 |ok d t'=>
  rw [ef] at q;exact λv G' H' S' ms fr t1 rv=>q v G' H' _ (E1.step2 (Sl.mk_own lk t') (Sl.mk_lk lk t') (E1.mk_lt e1 etr t') ms s1 fr t1) (sg.trans ms.gg) rv
 |ex x t'=>
  rw [ef] at q;exact λcls dx G' H' S' ms fr t1 ea=>⟨x,G',ms.gh,ea,q G' H' _ (E1.step2 (Sl.mk_own lk t') (Sl.mk_lk lk t') (E1.mk_lt e1 etr t') ms s1 fr t1) (sg.trans ms.gg)⟩
 |no=>rw [ef] at q;exact q
theorem bm_5{m:Str}:∀{ns:List Str} {us:List V},ns.contains m=false->(ns.zip us).lookup m=none
 | [],_,_=>rfl
 |_::_,[],_=>rfl
 |n::ns,u::us,h=>by
  rw [List.contains_cons,Bool.or_eq_false_iff] at h;rw [List.zip_cons_cons,List.lookup_cons,h.1];exact bm_5 h.2
theorem bm_6{i:Nat}{y:Str}{F:Tn->List D->RR}{p3:Pos}(hr:RoomC c k' X.A)(lk:Lk X EX)(h:FnRd X.prog X.w X.K X.mg X.base c x k n ps F)(ha:AM X EX es ga)(hk:k<=k':=by decide)
  (hN:X.N[i]? =some y:=by rfl) (hv:Fu X.env.scope y:=by first|exact Or.inl rfl|exact Or.inr (Or.inl rfl)|exact Or.inr (Or.inr rfl)) (hd:(y ==("__debug__" :Str))=false:=by decide) (hcd:(y ==("__classdict__" :Str))=false:=by decide)
  (hg:Gl X x:=by rfl) (hdb:(x ==("__debug__" :Str))=false:=by decide) (hs1:starEach (.Name y p3::es) X.env=(false,eval (.Name y p3) X.env)::starEach es X.env:=by rfl) (hpl:(backTo pos (starEach es X.env)).any (·.1)=false:=by rfl):
  EM X EX (.Call (.Name x pp) (.Name y p3::es) [] pos) (r_3 i n F ga):=by
 obtain⟨f,fd,ok,hm,kp,hb⟩:=h;refine PE.imp (co_1 hr lk ok hm kp hb (i_7 (Ft hN hv hd hcd) ha hs1) hk hg hdb hs1 hpl) λ σ H Q ⟨H0,G0,G,Δ,O,E,q⟩=> ?_;unfold r_3 at q
 split at q
 ·rename_i c0 ns ts lk0 e0;obtain⟨s,e1,etr⟩:=Option.bind_eq_some_iff.mp e0;obtain⟨v0,s1,t0⟩:=E.ow i _ _ e1 (Sl.tree_own etr);cases t0 with
  |obj hc hh hl hA sub rl=>
   refine⟨_,s1,H0,G0,G,Δ,O,E, ?_⟩;cases ea:ga Δ with
   |ok ds=>
    simp only [ea] at q
    split at q
    ·rename_i zk;exact λvs G1 H1 E1 sg r=>cq_1 e1 etr s1 E1 sg r zk q
    ·exact q.elim
   |ex x=>simp only [ea] at q;exact λG1 H1 E1 sg=>q G1 H1 O E1 sg
   |no=>simp only [ea] at q;exact q.elim
 ·exact q.elim
theorem af_4{i:Nat}{y m cn:Str}{F:Tn->List D->RR}{p3 zg:Pos}{pl:Sem Bool}(h:MethR X.prog X.w X.K X.mg X.base c k n m cn F)(hr:RoomC c k' X.A)(lk:Lk X EX)(ha:AM X EX (e::es) ga)(hk:k<=k':=by decide)
  (hN:X.N[i]? =some y:=by rfl) (hv:Fu X.env.scope y:=by first|exact Or.inl rfl|exact Or.inr (Or.inl rfl)|exact Or.inr (Or.inr rfl)) (hd:(y ==("__debug__" :Str))=false:=by decide) (hcd:(y ==("__classdict__" :Str))=false:=by decide)
  (hst:starEach (e::es) X.env=(false,eval e X.env)::starEach es X.env:=by rfl) (hpl:(backTo pos (starEach es X.env)).any (·.1)=false:=by rfl)
  (ht:eval (.Call (.Attribute (.Name y p3) m zg) (e::es) [] pos) X.env=(do
   let ov<-eval (.Name y p3) X.env
   standAt zg.atName
   let(f,first)<-holding [ov] (getMethod ov m pl)
   callWith pos f first (backTo pos (starEach (e::es) X.env)) (backToKw pos (keywordEach [] X.env))):=by rfl):EM X EX (.Call (.Attribute (.Name y p3) m zg) (e::es) [] pos) (o_3 i n m cn F ga):=by
 obtain⟨C,f,fd,ps,a1,a2,a3,a4,a5⟩:=h.ex;refine PE.imp (bz_2 (Ft hN hv hd hcd) (hr.mono hk) lk ha hst hpl ht) λ σ H Q ⟨H0,G0,G,Δ,O,E,q⟩=> ?_;unfold o_3 at q
 split at q
 ·rename_i c0 ns ts lk0 e0;obtain⟨s,e1,etr⟩:=Option.bind_eq_some_iff.mp e0;obtain⟨v0,s1,t0⟩:=E.ow i _ _ e1 (Sl.tree_own etr)
  split at q
  ·rename_i hcn;cases t0 with
   |obj hc hh hl hA sub rl=>
    obtain⟨rfl,hnm⟩:=hcn;have:=a1.same hc;subst this;refine⟨_,s1,_,_,_,_,f,fd,ps,_,rfl,hh,bm_5 hnm,a2,a3,a4,a5,H0,G0,G,Δ,O,E, ?_⟩;cases ea:ga Δ with
    |ok ds=>
     simp only [ea] at q
     split at q
     ·rename_i zk;exact λvs G1 H1 E1 sg r=>cq_1 e1 etr s1 E1 sg r zk q
     ·exact q.elim
    |ex x=>simp only [ea] at q;exact λG1 H1 E1 sg=>q G1 H1 O E1 sg
    |no=>simp only [ea] at q;exact q.elim
  ·exact q.elim
 ·exact q.elim
end
def repF:List Str->List Tn->Str->Tn->List Tn
 |n::ns,t::ts,f,t'=>if n=f then t'::ts else t::repF ns ts f t'
 |_,ts,_,_=>ts
def repV:List Str->List V->Str->V->List V
 |n::ns,t::ts,f,t'=>if n=f then t'::ts else t::repV ns ts f t'
 |_,ts,_,_=>ts
section
variable{K:Frag}{G H:Hp}
theorem OwL.focusF(f:Str):∀{ns:List Str} {us:List V} {ts:List Tn} {S:AS} {t:Tn},OwL K G H us ts S->(ns.zip ts).lookup f=some t->
  ∃v S1,(ns.zip us).lookup f=some v/\Ow K G H v t S1/\(∀b,S1 b->S b)/\
   ∀{H':Hp} {t':Tn},(∀b o,S b->¬S1 b->H b=some o->H' b=some o)->Ow K G H' v t' S1->OwL K G H' us (repF ns ts f t') S
 | [],_,_,_,_,_,e=>by cases e
 |_::_,[],_,_,_,.nil,e=>by cases e
 |n::ns,u::us,_,S,t,.cons (S1:=S1) (S2:=S2) (t:=t0) (ts:=ts) hh r dj s1 s2,e=>by
  rw [List.zip_cons_cons,List.lookup_cons] at e
  by_cases q:n=f
  ·subst q;simp only [beq_self_eq_true] at e;cases e;refine⟨u,S1,by rw [List.zip_cons_cons,List.lookup_cons,beq_self_eq_true],hh,s1,λ{H' t'} g h'=> ?_⟩;unfold repF;rw [if_pos rfl];exact .cons h' (r.mono (Same.refl _) (λb o hb z=>g b o (s2 b hb) (λw=>dj b w hb) z) λ_ z=>z) dj s1 s2
  ·have hb:(f ==n)=false:=beq_eq_false_iff_ne.mpr (Ne.symm q);simp only [hb] at e;obtain⟨v',S',e1,h',i',f'⟩:=OwL.focusF f r e;refine⟨v',S',by rw [List.zip_cons_cons,List.lookup_cons,hb];exact e1,h',λb z=>s2 b (i' b z),λ{H' t'} g h2=> ?_⟩;unfold repF;rw [if_neg q];exact .cons (hh.mono (Same.refl _) (λb o hb z=>g b o (s1 b hb) (λw=>dj b hb (i' b w)) z) λ_ z=>z) (f' (λb o hb nb z=>g b o (s2 b hb) nb z) h2) dj s1 s2
theorem OwL.repF{d:D}(hv:Has K G v d)(f:Str):∀{ns:List Str} {us:List V} {ts:List Tn} {S:AS},OwL K G H us ts S->OwL K G H (repV ns us f v) (L3.repF ns ts f (.sh d)) S
 | [],us,ts,S,r=>by
  have h1:repV [] us f v=us:=by cases us <;> rfl
  have h2:L3.repF [] ts f (.sh d)=ts:=by cases ts <;> rfl
  rw [h1,h2];exact r
 |_::_,_,_,_,.nil=> .nil
 |n::ns,u::us,_,S,.cons (S1:=S1) (S2:=S2) hh r dj s1 s2=>by
  unfold repV L3.repF
  by_cases q:n=f
  ·rw [if_pos q,if_pos q];exact .cons (S1:=λ_=>False) (.sh hv) r (λ_ z _=>z) (λ_ z=>z.elim) s2
  ·rw [if_neg q,if_neg q];exact .cons hh (OwL.repF hv f r) dj s1 s2
theorem bm_8(f:Str)(v:V):∀(ns:List Str) (us:List V),(repV ns us f v).length=us.length
 | [],us=>by cases us <;> rfl
 |_::_,[]=>rfl
 |n::ns,u::us=>by
  unfold repV
  split
  ·rfl
  ·rw [List.length_cons,List.length_cons,bm_8 f v ns us]
theorem bm_9{f:Str}{y:V}:∀{ns:List Str} {us:List V},ns.length=us.length->ns.contains f=true->Ez f y (ns.zip us)=ns.zip (repV ns us f y)
 | [],[],_,h=>by cases h
 | [],_::_,e,_=>by simp at e
 |_::_,[],e,_=>by simp at e
 |n::ns,u::us,e,h=>by
  show Ez f y ((n,u)::ns.zip us)=_;unfold Ez repV
  by_cases q:n=f
  ·rw [if_pos q,if_pos q];simp only [q,List.zip_cons_cons]
  ·rw [if_neg q,if_neg q,List.zip_cons_cons,bm_9 (by simpa using e)];rw [List.contains_cons,Bool.or_eq_true] at h;rcases h with h|h
   ·exact absurd (beq_iff_eq.mp h).symm q
   ·exact h
theorem Ow.obj_of{c:Str}{ns:List Str}{ts:List Tn}{S:AS}(t:Ow K G H v (.obj c ns ts) S):∃a C dx us S1,v=.ref a/\ClsAt K c C/\H a=some (.ins C dx (ns.zip us))/\ns.length=us.length/\S a/\(∀b,S1 b->S b/\b≠a)/\OwL K G H us ts S1:=by
 cases t with
 |obj hc h hl ha sub r=>exact⟨_,_,_,_,_,rfl,hc,h,hl,ha,sub,r⟩
end
def ba_6(i:Nat)(cs:List Str)(f:Str)(fk fe:FE):FS:=λ Δ=>match(Δ[i]?).bind Sl.tree with
 |some (.obj c ns ts,lk)=>if cs.contains c=true then(match(ns.zip ts).lookup f with
  |some (.dic kt2)=>(match unS kt2 with
   |some kds=>(match fe (As Δ) with
    | .ok w=>(match fk (As Δ) with
     | .ok z=>(match Ee z.d with
      |some k=>if kds.length < 16777216 then .nx (Δ.set i (Sl.mk lk (.obj c ns (repF ns ts f (Tn.of (.dic (Cr kds k w.d))))))) else .no
      |none=> .no)
     |_=> .no)
    |_=> .no)
   |none=> .no)
  |_=> .no) else .no
 |_=> .no
def bn_0(i:Nat)(cs:List Str)(f:Str)(fk:FE):FS:=λ Δ=>match(Δ[i]?).bind Sl.tree with
 |some (.obj c ns ts,lk)=>if cs.contains c=true then(match(ns.zip ts).lookup f with
  |some (.dic kt2)=>(match unS kt2 with
   |some kds=>(match fk (As Δ) with
    | .ok z=>(match Ee z.d with
     |some k=>if(Bh kds k).isSome=true then .nx (Δ.set i (Sl.mk lk (.obj c ns (repF ns ts f (Tn.of (.dic (Ei kds k))))))) else .no
     |none=> .no)
    |_=> .no)
   |none=> .no)
  |_=> .no) else .no
 |_=> .no
def bn_1(i:Nat)(cs:List Str)(f:Str)(js:List Nat)(fe:FE):FS:=λ Δ=>match((gsome js Δ)[i]?).bind Sl.tree with
 |some (.obj c ns ts,lk)=>if cs.contains c=true/\ns.contains f=true/\ns.length < 1000 then(match fe (As (gsome js Δ)) with
  | .ok w=> .nx ((gsome js Δ).set i (Sl.mk lk (.obj c ns (repF ns ts f (.sh w.d)))))
  |_=> .no) else .no
 |_=> .no
section
variable{X:Cx}{EX:Ay}{pos:Pos}{i:Nat}{cs:List Str}{f x:Str}
theorem da_7{e e2:Expr}{fe fk:FE}{p1 p2 zh:Pos}(hu:X.A.units + 64 < cLine)(k:OFld X.K cs f)(he:ED X EX e fe)(h2:ED X EX e2 fk)(hN:X.N[i]? =some x:=by rfl)(hv:Fu X.env.scope x:=by first|exact Or.inl rfl|exact Or.inr (Or.inl rfl)|exact Or.inr (Or.inr rfl))(hd:(x ==("__debug__" :Str))=false:=by decide)
  (hcd:(x ==("__classdict__" :Str))=false:=by decide) (hb:attributeBase (.Name x p1) f X.env (eval (.Name x p1) X.env)=eval (.Name x p1) X.env:=by rfl) (hs:swapsWith e (some (.Subscript (.Attribute (.Name x p1) f p2) e2 zh)) pos.line X.env=pure false:=by rfl):
  SD X EX (.Assign [.Subscript (.Attribute (.Name x p1) f p2) e2 zh] e pos) (ba_6 i cs f fk fe):=
 PS.imp (bx_9 (by omega) (br_5 (Ft hN hv hd hcd) hb) h2 he hs) λD σ H ⟨H0,G0,G,Δ,O,E,q⟩=>by
  unfold ba_6 at q
  split at q
  ·rename_i c ns ts lk e0;obtain⟨s,e1,etr⟩:=Option.bind_eq_some_iff.mp e0
   split at q
   ·rename_i hcs
    split at q
    ·rename_i kt2 ef
     split at q
     ·rename_i kds eu;refine⟨G,As Δ,E.st.gh,E.gsh, ?_⟩;cases e2:fe (As Δ) with
      |ex x=>simp only [e2] at q;exact q.elim
      |no=>simp only [e2] at q;exact q.elim
      |ok w=>
       simp only [e2] at q;refine WP.intro λv G1 H1 st r=> ?_;have E1:=E.grow st;obtain⟨v0,s1,t⟩:=E1.ow i _ _ e1 (Sl.tree_own etr);obtain⟨a,C,dx,us,S1,rfl,hC,hH,hl,ha,sub,rl⟩:=t.obj_of;obtain⟨kc,kn⟩:=k _ hcs _ hC;obtain⟨vd,Sd,ed,td,idd,fc⟩:=OwL.focusF f (ns:=ns) rl ef;refine⟨_,s1,a,C,dx,_,vd,rfl,hH,kc,kn,ed, ?_⟩;refine⟨G1,As Δ,E1.st.gh,E1.gsh, ?_⟩;cases e3:fk (As Δ) with
       |ex x=>simp only [e3] at q;exact q.elim
       |no=>simp only [e3] at q;exact q.elim
       |ok z=>
        simp only [e3] at q;refine WP.intro λv2 G2 H2 st2 r2=> ?_
        split at q
        ·rename_i k0 ek
         split at q
         ·rename_i zk;have hv2:=t_4 r2 ek;subst hv2;rw [ar_5 eu] at td;obtain⟨c1,kvc,rfl,mc,hHc,hkc,rlc⟩:=Ow.dict_of (kds:=kds) td;have E2:=E1.grow st2;have hle:kvc.length=kds.length:=by
           have:=congrArg List.length hkc
           rwa [List.length_map,List.length_map] at this
          obtain⟨p1,p2⟩:=by_8 k0 hkc rlc r;have hca:c1≠a:=(sub c1 (idd c1 mc)).2;refine⟨c1,_,rfl,DPut.k (st2.hh _ _ hHc) (by rw [hle,sizeLine_eq];exact zk),q σ G2 _ _ (E2.writeIn e1 etr s1 (sub c1 (idd c1 mc)).1 ?_) (st.gg.trans st2.gg)⟩;refine Ow.obj (S1:=S1) hC (by rw [An (Ne.symm hca)];exact st2.hh _ _ hH) hl ha sub ?_;refine OwL.mono st2.gg (fc (λb o hb nb z=> ?_) (Ow.dict Ba p1 mc p2)) (λ_ _ _ z=>z) λ_ z=>z;rw [An (show b≠c1 from λw=>nb (by rw [w];exact mc))];exact st2.hh _ _ z
         ·exact q.elim
        ·exact q.elim
     ·exact q.elim
    ·exact q.elim
   ·exact q.elim
  ·exact q.elim
theorem da_8{e2:Expr}{fk:FE}{p1 p2 zg zf:Pos}(k:OFld X.K cs f)(h2:ED X EX e2 fk)(hN:X.N[i]? =some x:=by rfl)(hv:Fu X.env.scope x:=by first|exact Or.inl rfl|exact Or.inr (Or.inl rfl)|exact Or.inr (Or.inr rfl))(hd:(x ==("__debug__" :Str))=false:=by decide)
  (hcd:(x ==("__classdict__" :Str))=false:=by decide) (hb:attributeBase (.Name x p1) f X.env (eval (.Name x p1) X.env)=eval (.Name x p1) X.env:=by rfl) (hm:M1 X (.Attribute (.Name x p1) f p2) "pop" zg e2 zf:=by exact⟨rfl,rfl,rfl,rfl⟩)
  (hs:swapsWith (.Call (.Attribute (.Attribute (.Name x p1) f p2) "pop" zg) [e2] [] zf) none pos.line X.env=pure false:=by rfl):
  SD X EX (.Expr (.Call (.Attribute (.Attribute (.Name x p1) f p2) "pop" zg) [e2] [] zf) pos) (bn_0 i cs f fk):=
 PS.imp (u_8 (bj_3 (br_5 (Ft hN hv hd hcd) hb) h2 hm) hs) λD σ H ⟨H0,G0,G,Δ,O,E,q⟩=>by
  unfold bn_0 at q
  split at q
  ·rename_i c ns ts lk e0;obtain⟨s,e1,etr⟩:=Option.bind_eq_some_iff.mp e0
   split at q
   ·rename_i hcs
    split at q
    ·rename_i kt2 ef
     split at q
     ·rename_i kds eu;obtain⟨v0,s1,t⟩:=E.ow i _ _ e1 (Sl.tree_own etr);obtain⟨a,C,dx,us,S1,rfl,hC,hH,hl,ha,sub,rl⟩:=t.obj_of;obtain⟨kc,kn⟩:=k _ hcs _ hC;obtain⟨vd,Sd,ed,td,idd,fc⟩:=OwL.focusF f (ns:=ns) rl ef;rw [ar_5 eu] at td;obtain⟨c1,kvc,rfl,mc,hHc,hkc,rlc⟩:=Ow.dict_of (kds:=kds) td;refine⟨_,s1,a,C,dx,_,_,rfl,hH,kc,kn,ed,c1,rfl,.inl ⟨kvc,.inl hHc⟩, ?_⟩;refine⟨G,As Δ,E.st.gh,E.gsh, ?_⟩;cases e3:fk (As Δ) with
      |ex x=>simp only [e3] at q;exact q.elim
      |no=>simp only [e3] at q;exact q.elim
      |ok z=>
       simp only [e3] at q;refine WP.intro λv2 G2 H2 st2 r2=> ?_
       split at q
       ·rename_i k0 ek
        split at q
        ·rename_i hin;have hv2:=t_4 r2 ek;subst hv2;have E2:=E.grow st2;obtain⟨d0,ed0⟩:=Option.isSome_iff_exists.mp hin;obtain⟨vv,ev,_⟩:=(v_5 k0 hkc rlc).2 d0 ed0;obtain⟨p1,p2⟩:=ar_6 k0 hkc rlc;have hca:c1≠a:=(sub c1 (idd c1 mc)).2;refine⟨kvc,k0,vv,st2.hh _ _ hHc,rfl,ev,q σ G2 _ _ (E2.writeIn e1 etr s1 (sub c1 (idd c1 mc)).1 ?_) st2.gg⟩;refine Ow.obj (S1:=S1) hC (by rw [An (Ne.symm hca)];exact st2.hh _ _ hH) hl ha sub ?_;refine OwL.mono st2.gg (fc (λb o hb nb z=> ?_) (Ow.dict Ba p1 mc p2)) (λ_ _ _ z=>z) λ_ z=>z;rw [An (show b≠c1 from λw=>nb (by rw [w];exact mc))];exact st2.hh _ _ z
        ·exact q.elim
       ·exact q.elim
     ·exact q.elim
    ·exact q.elim
   ·exact q.elim
  ·exact q.elim
theorem da_9(js:List Nat){e:Expr}{fe:FE}{p1 p2:Pos}(k:OFld X.K cs f)(he:ED X EX e fe)(hN:X.N[i]? =some x:=by rfl)(hv:Fu X.env.scope x:=by first|exact Or.inl rfl|exact Or.inr (Or.inl rfl)|exact Or.inr (Or.inr rfl))(hd:(x ==("__debug__" :Str))=false:=by decide)
  (hcd:(x ==("__classdict__" :Str))=false:=by decide) (hs:swapsWith e (some (.Attribute (.Name x p1) f p2)) pos.line X.env=pure false:=by rfl):SD X EX (.Assign [.Attribute (.Name x p1) f p2] e pos) (bn_1 i cs f js fe):=
 PS.imp (br_6 (Ft hN hv hd hcd) he hs) λD σ H ⟨H0,G0,G,Δ,O,E,q⟩=>by
  obtain⟨G1,O1,sg,E1⟩:=E.gsome js;unfold bn_1 at q;generalize gsome js Δ=Δ1 at q E1
  split at q
  ·rename_i c ns ts lk e0;obtain⟨s,e1,etr⟩:=Option.bind_eq_some_iff.mp e0
   split at q
   ·rename_i hc;obtain⟨hc1,hc2,hc3⟩:=hc;refine⟨G1,As Δ1,E1.st.gh,E1.gsh, ?_⟩;cases e2:fe (As Δ1) with
    |ex y=>simp only [e2] at q;exact q.elim
    |no=>simp only [e2] at q;exact q.elim
    |ok w=>
     simp only [e2] at q;refine WP.intro λv G2 H2 st r=> ?_;have E2:=E1.grow st;obtain⟨v0,s1,t⟩:=E2.ow i _ _ e1 (Sl.tree_own etr);obtain⟨a,C,dx,us,S1,rfl,hC,hH,hl,ha,sub,rl⟩:=t.obj_of;obtain⟨kc,kn⟩:=k _ hc1 _ hC;refine⟨_,s1,a,C,dx,_,rfl,hH,kc,kn,by rw [List.length_zip,<-hl,Nat.min_self];exact hc3, ?_⟩;rw [bm_9 hl hc2];refine q σ G2 _ _ (E2.writeIn e1 etr s1 ha ?_) (sg.trans st.gg);refine .obj (S1:=S1) hC Ba (by rw [bm_8];exact hl) ha sub ?_;refine OwL.mono (Same.refl _) (OwL.repF r f rl) (λb o hb z=> ?_) λ_ z=>z;rw [An (sub b hb).2];exact z
   ·exact q.elim
  ·exact q.elim
end
def y_4(n:Nat)(c:Str)(g:FS)(ds:List D):R (List Str×List Tn):=match g (ar_8 n c ds) with
 | .nx (.lt (.obj c' ns ts)::_)=>if c'=c then .ok (ns,ts) else .no
 | .ex x _=> .ex x
 |_=> .no
def spJ(K:Frag)(C:Addr)(cn:Str)(n:Nat)(F:List D->R (List Str×List Tn)):Sp:=λvs H Q E=>∃x dx vs0 Hq G ds,vs=.ref x::vs0/\vs0.length=n/\Hq x=none/\Same Hq H/\H x=some (.ins C dx [])/\Same G Hq/\HasL K G vs0 ds/\
 (match F ds with
 | .ok p=>∀G' H' S,Step G Hq G' H'->(∀a,S a->Hq a=none/\G' a=none/\H' a≠none)->Ow K G' H' (.ref x) (.obj cn p.1 p.2) S->Q .non H'
 | .ex e=>(EXof K E).p e G Hq
 | .no=>False)
theorem fn_J{c:Bool}{P:Program}{w:World}{x qual cn:Str}{st:Stmt}{f C:Addr}{N ps:List Str}{k n:Nat}{g:FS}(F:Fun K x qual st f fd)(S:FnScope N ps (Ci st))(hC:ClsAt K cn C)(hn:ps.length=n + 1)(hle:ps.length<=N.length)
  (zj:∀(zq:Value) (A:Around) (outer:List Env) (s:Shared) (H:Hp) (E:XK),RoomC c k (A.deeper (envOfC qual (Ci st) s.heap.objs.size f zq))->
   BD (cxN c P w K mg base N qual (Ci st) f zq A outer s H E) (λ_=>EXof K E) (Fk st) g):FnX P w K mg base c (k + 1) f fd ps (spJ K C cn n (y_4 N.length cn g)):=by
 refine Fun.okX F S (λvs H Q E h=> ?_) λzq A outer s H vs Q E hr h=>⟨_,zj zq A outer s H E hr, ?_⟩
 ·obtain⟨x,dx,vs0,Hq,G,ds,rfl,hl,_⟩:=h;rw [List.length_cons,hl,hn]
 obtain⟨x,dx,vs0,Hq,G,ds,rfl,hl,n1,i0,hx,g0,r,q⟩:=h;have E0:=ba_0 (N:=N) (b:=λ_=>x) (v0:=.ref x) (g0.trans i0) i0 r (by rw [hl];omega);have hs:(L2.start N (.ref x::vs0))[0]? =some (some (.ref x)):=rfl;have E1:=E0.putO (i:=0) (z:=.lt (.obj cn [] [])) (v:=.ref x) (S:=λb=>b=x) (λa ha=>by subst ha;exact⟨n1,g0.free n1,by rw [hx];simp⟩) rfl (λ_ z=>by cases z) (.obj (S1:=λ_=>False) hC (us:=[]) hx rfl rfl (λ_ z=>z.elim) .nil) (λj a ha=>ha.elim) (λ_ _=>rfl);rw [u_0 hs] at E1;refine⟨⟨Hq,λ_=>x⟩,G,G,_,_,E1, ?_⟩;have e2:(Sl.no::(ds.map Sl.sh ++ List.replicate (N.length - (ds.length + 1)) .no)).set 0 (.lt (.obj cn [] []))=ar_8 N.length cn ds:=rfl;rw [e2];have nxt:∀{Δ:SE},g (ar_8 N.length cn ds)=.nx Δ->Fin K (λ_=>EXof K E) ⟨Hq,λ_=>x⟩ G G {nx:=λ_ H'=>Q .non H',rt:=Q} (.nx Δ):=λ{Δ} e=>by
  unfold y_4 at q;rw [e] at q;cases Δ with
  |nil=>exact q.elim
  |cons s Δ=>
   cases s with
   |lt t=>
    cases t with
    |obj c' ns ts=>
     simp only at q
     by_cases hcc:c'=cn
     ·subst hcc;rw [if_pos rfl] at q;intro σ G' H' O E' _;obtain⟨v,s1,t3⟩:=E'.ow 0 _ _ rfl rfl;have s2:=E'.lt 0 _ rfl;rw [s1] at s2;cases s2;exact q G' H' (O 0) E'.st (λa ha=>⟨(E'.out 0 a ha).2.1,(E'.out 0 a ha).1,(E'.out 0 a ha).2.2⟩) t3
     ·rw [if_neg hcc] at q;exact q.elim
    |_=>exact q.elim
   |_=>exact q.elim
 cases e:g (ar_8 N.length cn ds) with
 |nx Δ=>exact nxt e
 |ex x Δ=>unfold y_4 at q;rw [e] at q;exact λ σ G' H' O E' _=>(EXof K E).mono _ _ _ _ _ E'.st q
 |rt w=>unfold y_4 at q;rw [e] at q;exact q.elim
 |rv d Δ=>unfold y_4 at q;rw [e] at q;exact q.elim
 |bk Δ=>unfold y_4 at q;rw [e] at q;exact q.elim
 |ct Δ=>unfold y_4 at q;rw [e] at q;exact q.elim
 |no=>unfold y_4 at q;rw [e] at q;exact q.elim
def bn_2(i:Nat)(cs:List Str)(f:Str)(fe:FE):FS:=λ Δ=>match Δ[i]? with
 |some (.lt (.obj c ns ts))=>if cs.contains c=true/\ns.contains f=false/\ns.length < 1000 then(match fe (As Δ) with
  | .ok (.ow d)=> .nx (Δ.set i (.lt (.obj c (ns ++ [f]) (ts ++ [Tn.of d]))))
  |_=> .no) else .no
 |_=> .no
def MakJ(P:Program)(w:World)(K:Frag)(mg:Str->Option Value)(base:Heap)(cc:Bool)(c:Str)(k n:Nat)(F:List D->R (List Str×List Tn)):Prop:=
 ∃C f fd ps,ClsAt K c C/\mg c=some (.ref C)/\Mk K C f/\FnX P w K mg base cc k f fd ps (spJ K C c n F)/\Binds K fd ps []
def bn_3(c:Str)(n:Nat)(F:List D->R (List Str×List Tn))(fa:FA):FE:=λ δ=>(fa δ).bind λds=>if ds.length=n then(F ds).bind λp=> .ok (.tr (.obj c p.1 p.2)) else .no
section
variable{X:Cx}{EX:Ay}{e:Expr}{es:List Expr}{x:Str}{pp pos:Pos}{cc:Bool}{k k' n:Nat}
theorem db_1{i:Nat}{cs:List Str}{f x:Str}{e:Expr}{fe:FE}{p1 p2:Pos}(k:OFld X.K cs f)(he:ED X EX e fe)(hN:X.N[i]? =some x:=by rfl)(hv:Fu X.env.scope x:=by first|exact Or.inl rfl|exact Or.inr (Or.inl rfl)|exact Or.inr (Or.inr rfl))(hd:(x ==("__debug__" :Str))=false:=by decide)
  (hcd:(x ==("__classdict__" :Str))=false:=by decide) (hs:swapsWith e (some (.Attribute (.Name x p1) f p2)) pos.line X.env=pure false:=by rfl):SD X EX (.Assign [.Attribute (.Name x p1) f p2] e pos) (bn_2 i cs f fe):=
 PS.imp (br_6 (Ft hN hv hd hcd) he hs) λD σ H ⟨H0,G0,G,Δ,O,E,q⟩=>by
  unfold bn_2 at q
  split at q
  ·rename_i c ns ts e1
   split at q
   ·rename_i hc;obtain⟨hc1,hc2,hc3⟩:=hc;refine⟨G,As Δ,E.st.gh,E.gsh, ?_⟩;cases e2:fe (As Δ) with
    |ex y=>simp only [e2] at q;exact q.elim
    |no=>simp only [e2] at q;exact q.elim
    |ok w=>
     simp only [e2] at q;cases w with
     |sh d=>exact q.elim
     |tr t=>exact q.elim
     |ow d=>
      intro v S2 G2 H2 st fr tw;have E2:=E.grow st;obtain⟨v0,s1,t⟩:=E2.ow i _ _ e1 rfl;obtain⟨a,C,dx,us,S1,rfl,hC,hH,hl,ha,sub,rl⟩:=t.obj_of;have s2:=E2.lt i _ e1;obtain⟨kc,kn⟩:=k _ hc1 _ hC;refine⟨_,s1,a,C,dx,_,rfl,hH,kc,kn,by rw [List.length_zip,<-hl,Nat.min_self];exact hc3, ?_⟩;rw [ar_9 hl hc2];have hna:∀b,S2 b->b≠a:=λb hb z=>(E.out i a ha).2.2 (by rw [<-z];exact(fr b hb).1);have nO:∀b,S2 b->∀j,¬O j b:=λb hb j hj=>(E.out j b hj).2.2 (fr b hb).1;have np:∀b,b≠a->upd H2 a (.ins C dx ((ns ++ [f]).zip (us ++ [v]))) b=H2 b:=λb hb=>An hb;have al:∀b,H2 b≠none->upd H2 a (.ins C dx ((ns ++ [f]).zip (us ++ [v]))) b≠none:=λb hb=>by
       by_cases z:b=a
       ·subst z;rw [Ba];simp
       ·rw [np b z];exact hb
      have gh:Same G2 (upd H2 a (.ins C dx ((ns ++ [f]).zip (us ++ [v])))):=λb o z=>by
       have nb:b≠a:=λw=>by rw [w,(E2.out i a ha).1] at z;cases z
       rw [np b nb];exact st.gh b o z
      have s0:σ[i]? =some (some (.ref a)):=s1;refine q σ G2 _ _ (E.step2 (S:=λb=>O i b\/S2 b) (z:=.lt _) rfl (λ_ z=>by cases z) (λ_ _=>by rw [s1] at s2⊢;exact s2) ⟨λb o nb z=>by rw [np b λw=>nb (by rw [w];exact ha)];exact st.hh b o z,gh,st.gg,λb _ z1 z2=>st.nw b z1 z2⟩ s0 (λb hb=> ?_) ?_) st.gg
      ·rcases hb with hb|hb
       ·exact⟨.inl hb,(E2.out i b hb).1,al b (E2.out i b hb).2.2⟩
       ·exact⟨.inr (fr b hb).1,(fr b hb).2.1,al b (fr b hb).2.2⟩
      ·refine .obj (S1:=λb=>S1 b\/S2 b) hC Ba (by rw [List.length_append,List.length_append,hl];rfl) (.inl ha) (λb hb=> ?_) ?_
       ·rcases hb with hb|hb
        ·exact⟨.inl (sub b hb).1,(sub b hb).2⟩
        ·exact⟨.inr hb,hna b hb⟩
       ·refine OwL.append (S1:=S1) (S2:=S2) (rl.mono (Same.refl _) (λb o hb z=>by rw [np b (sub b hb).2];exact z) λ_ z=>z) (.cons (S1:=S2) (S2:=λ_=>False) (tw.mono (Same.refl _) (λb o hb z=>by rw [np b (hna b hb)];exact z) λ_ z=>z) .nil (λ_ _ z=>z) (λ_ z=>z) λ_ z=>z.elim) (λb z1 z2=>nO b z2 i (sub b z1).1) (λ_ z=> .inl z) λ_ z=> .inr z
   ·exact q.elim
  ·exact q.elim
theorem ca_3{F:List D->R (List Str×List Tn)}{fa:FA}(hr:RoomC cc k' X.A)(lk:Lk X EX)(h:MakJ X.prog X.w X.K X.mg X.base cc x k n F)(ha:AD X EX (e::es) fa)(hk:k + 1<=k':=by decide)(hg:Gl X x:=by rfl)(hdb:(x ==("__debug__" :Str))=false:=by decide)
  (he:starEach (e::es) X.env=(false,eval e X.env)::starEach es X.env:=by rfl) (hpl:(backTo pos (starEach es X.env)).any (·.1)=false:=by rfl):ED X EX (.Call (.Name x pp) (e::es) [] pos) (bn_3 x n F fa):=by
 obtain⟨C,f,fd,ps,hC,hm,M,ok,hb⟩:=h;intro zd s σ H Q I q;obtain⟨G,δ,g0,s0,o⟩:=q;refine wpAny_Call_Name_kw (p_6 I hg hm ?_ hdb);have ta:tDa X.K EX fa σ H λvs H1=>∃G1 ds,Same G1 H1/\HasL X.K G1 vs ds/\ds.length=n/\Out X.K (EX σ) G1 H1 ((F ds).bind λp=> .ok (.tr (.obj x p.1 p.2))) Q:=by
  refine tDa.seq g0 s0 o λds vs G' H' _ st r o'=> ?_
  split at o'
  ·rename_i hl;exact⟨G',ds,st.gh,r,hl,o'⟩
  ·exact o'.elim
 refine callWith_K (h₀:=X.base) I.ok.mod.kin M.kp (Aw (ha pos zd s σ H _ I ta) λus s1 ⟨vs,H1,I1,r,G1,ds,sg,rl,hl,o'⟩=>⟨I1.kIn, ?_⟩) he hpl;refine cg_1 M ok (hr.mono hk) hb lk I1 r λy dy ny ndy ne=> ?_;refine⟨y,dy,vs,H1,G1,ds,rfl,by rw [rl.length];exact hl,ny,(λb o e=>by rw [An (Ef e ny),An (Ef e ndy)];exact e),Ba,sg,rl, ?_⟩;cases ef:F ds with
 |ok p=>
  rw [ef] at o';intro G' H' S st fr tw;exact⟨rfl,o' (.ref y) S G' H' st fr tw⟩
 |ex z=>rw [ef] at o';exact EXof.in o'
 |no=>rw [ef] at o';exact o'
end
def r_4(js:List Nat)(f:FE):SE->FM:=λ Δ=>match f (As (gsome js Δ)) with
 | .ok w=> .ok w.d (gsome js Δ)
 | .ex x=> .ex x (gsome js Δ)
 | .no=> .no
def En(js:List Nat)(g:SE->FM):SE->FM:=λ Δ=>g (gsome js Δ)
def Bo(f:FE)(ga:SE->R (List D)):SE->R (List D):=λ Δ=>match f (As Δ) with
 | .ok w=>(match ga Δ with
  | .ok ds=> .ok (w.d::ds)
  | .ex x=> .ex x
  | .no=> .no)
 | .ex x=> .ex x
 | .no=> .no
def bn_4(fg:FG)(g:SE->FM):FS:=λ Δ=>match g Δ with
 | .ok d Δ1=>(match fg d Δ1 with
  | .ok Δ2=> .nx Δ2
  |_=> .no)
 | .ex x Δ1=> .ex x Δ1
 | .no=> .no
def bn_5(g:SE->FM)(fg:FG)(gb:FS):FS:=λ Δ=>match g Δ with
 | .ok d Δ1=>(match dl_0 d with
  | .ok ds=>Dw fg gb ds Δ1
  |_=> .no)
 | .ex x Δ1=> .ex x Δ1
 | .no=> .no
def bn_6(i:Nat)(fk:FE):FS:=λ Δ=>match Δ[i]? with
 |some (.ow (.dic kds))=>(match fk (As Δ) with
  | .ok z=>(match Ee z.d with
   |some k=>if(Bh kds k).isSome=true then .nx (Δ.set i (.ow (.dic (Ei kds k)))) else .no
   |none=> .no)
  |_=> .no)
 |_=> .no
section
variable{X:Cx}{EX:Ay}{e:Expr}{es:List Expr}{f:FE}{g:SE->FM}{ga:SE->R (List D)}{pos:Pos}
theorem af_5(js:List Nat)(he:ED X EX e f):EM X EX e (r_4 js f):=PE.imp he λ σ H Q ⟨H0,G0,G,Δ,O,E,q⟩=>by
 obtain⟨G1,O1,sg,E1⟩:=E.gsome js;unfold r_4 at q;refine⟨G1,As (gsome js Δ),E1.st.gh,E1.gsh, ?_⟩;cases e1:f (As (gsome js Δ)) with
 |ok w=>simp only [e1] at q;exact WP.intro λv G' H' st r=>q v G' H' O1 (E1.grow st) (sg.trans st.gg) r
 |ex x=>simp only [e1] at q;exact q G1 H O1 E1 sg
 |no=>simp only [e1] at q;exact q.elim
theorem r_5(js:List Nat)(he:EM X EX e g):EM X EX e (En js g):=PE.imp he λ σ H Q ⟨H0,G0,G,Δ,O,E,q⟩=>by
 obtain⟨G1,O1,sg,E1⟩:=E.gsome js;exact⟨H0,G0,G1,gsome js Δ,O1,E1,OutM.mono sg q⟩
theorem g_6(ha:ED X EX e f)(hr:AM X EX es ga)(hs:starEach (e::es) X.env=(false,eval e X.env)::starEach es X.env:=by rfl):AM X EX (e::es) (Bo f ga):=
 PA.imp (i_7 ha hr hs) λ σ H Q ⟨H0,G0,G,Δ,O,E,q⟩=>by
  unfold Bo at q;refine⟨G,As Δ,E.st.gh,E.gsh, ?_⟩;cases e1:f (As Δ) with
  |ok w=>
   simp only [e1] at q;refine WP.intro λv G1 H1 st r=>⟨H0,G0,G1,Δ,O,E.grow st, ?_⟩;cases e2:ga Δ with
   |ok ds=>simp only [e2] at q;exact λvs G2 H2 E2 s2 r2=>q (v::vs) G2 H2 E2 (st.gg.trans s2) (.cons (r.mono s2) r2)
   |ex x=>simp only [e2] at q;exact λG2 H2 E2 s2=>q G2 H2 E2 (st.gg.trans s2)
   |no=>simp only [e2] at q
  |ex x=>simp only [e1] at q;exact q G H E (Same.refl _)
  |no=>simp only [e1] at q
theorem db_2{fg:FG}{tg:Expr}(he:EM X EX e g)(hg:GD X EX tg fg)(hs:swapsWithSole [tg] e pos.line X.env=pure false:=by rfl)(hw:swappedStores [tg] e X.env=pure none:=by rfl)
  (h1:(assignEach [tg] X.env).map (·.2)= [assign tg X.env]:=by rfl):SD X EX (.Assign [tg] e pos) (bn_4 fg g):=
 PS.imp (cj_3 he hg hs hw h1) λD σ H ⟨H0,G0,G,Δ,O,E,q⟩=>by
  refine⟨H0,G0,G,Δ,O,E, ?_⟩;unfold bn_4 at q;cases e1:g Δ with
  |ok d Δ1=>
   simp only [e1] at q;intro v G1 H1 O1 E1 s1 r1;refine⟨H0,G0,G1,Δ1,O1,d,E1,r1, ?_⟩;cases e2:fg d Δ1 with
   |ok Δ2=>simp only [e2] at q;exact λ σ' G2 H2 O2 E2 s2=>q σ' G2 H2 O2 E2 (s1.trans s2)
   |ex x=>simp only [e2] at q;exact q.elim
   |no=>simp only [e2] at q;exact q.elim
  |ex x Δ1=>simp only [e1] at q;exact λG1 H1 O1 E1 s1=>q σ G1 H1 O1 E1 s1
  |no=>simp only [e1] at q;exact q.elim
theorem db_3{elts:List Expr}{x1:Nat}{tp p p2:Pos}{a:Expr}{body:List Stmt}{fg:FG}{gb:FS}(hp:PassesOwn (model X.prog X.w) X.A X.env X.xe)(hc:X.calm=true)(hm:X.mg "enumerate" =none)(he:EM X EX a g)(hg:GD X EX (.Tuple elts x1 tp) fg)(hb:BD X EX body gb)
  (hgl:Gl X "enumerate" :=by rfl) (hst:starEach [a] X.env= [(false,eval a X.env)]:=by rfl) (hs1:starEach [a] X.env=(false,eval a X.env)::starEach [] X.env:=by rfl) (hs:∀x,foldedSetIterable (.Call (.Name "enumerate" p) [a] [] p2) X.env x=pure x:=by intro _;rfl):
  SD X EX (.For (.Tuple elts x1 tp) (.Call (.Name "enumerate" p) [a] [] p2) body [] pos) (bn_5 g fg gb):=
 PS.imp (bq_9 hp hc (cy_4 hgl hm (i_7 he o_9 hs1) hst) hg hb hs) λD σ H ⟨H0,G0,G,Δ,O,E,q⟩=>by
  refine⟨H0,G0,G,Δ,O,E, ?_⟩;unfold bn_5 at q;cases e1:g Δ with
  |ok d Δ1=>
   simp only [e1] at q;intro v G1 H1 O1 E1 s1 r1;cases d with
   |lst ds=>
    cases r1 with
    |lst h r=>exact .inl ⟨_,rfl,⟨_,E1.st.gh.seq h⟩,p_9 E1 (cy_5 h r) (Fin.mono s1 q)⟩
   |str z=>
    cases r1;exact .inr ⟨z,rfl,p_9 E1 (cy_6 z) (Fin.mono s1 q)⟩
   |_=>exact q.elim
  |ex x Δ1=>simp only [e1] at q;exact λG1 H1 O1 E1 s1=>q σ G1 H1 O1 E1 s1
  |no=>simp only [e1] at q;exact q.elim
theorem db_4{i:Nat}{x:Str}{e2:Expr}{fk:FE}{p1 zg zf:Pos}(h2:ED X EX e2 fk)(hN:X.N[i]? =some x:=by rfl)(hv:Fu X.env.scope x:=by first|exact Or.inl rfl|exact Or.inr (Or.inl rfl)|exact Or.inr (Or.inr rfl))(hd:(x ==("__debug__" :Str))=false:=by decide)
  (hcd:(x ==("__classdict__" :Str))=false:=by decide) (hm:M1 X (.Name x p1) "pop" zg e2 zf:=by exact⟨rfl,rfl,rfl,rfl⟩)
  (hs:swapsWith (.Call (.Attribute (.Name x p1) "pop" zg) [e2] [] zf) none pos.line X.env=pure false:=by rfl):
  SD X EX (.Expr (.Call (.Attribute (.Name x p1) "pop" zg) [e2] [] zf) pos) (bn_6 i fk):=
 PS.imp (u_8 (bj_3 (Ft hN hv hd hcd) h2 hm) hs) λD σ H ⟨H0,G0,G,Δ,O,E,q⟩=>by
  unfold bn_6 at q
  split at q
  ·rename_i kds e1;obtain⟨v0,s1,t⟩:=E.ow i _ _ e1 rfl;obtain⟨c1,kvc,rfl,mc,hHc,hkc,rlc⟩:=Ow.dict_of t;refine⟨_,s1,c1,rfl,.inl ⟨kvc,.inl hHc⟩, ?_⟩;refine⟨G,As Δ,E.st.gh,E.gsh, ?_⟩;cases e3:fk (As Δ) with
   |ex x=>simp only [e3] at q;exact q.elim
   |no=>simp only [e3] at q;exact q.elim
   |ok z=>
    simp only [e3] at q;refine WP.intro λv2 G2 H2 st2 r2=> ?_
    split at q
    ·rename_i k0 ek
     split at q
     ·rename_i hin;have hv2:=t_4 r2 ek;subst hv2;have E2:=E.grow st2;obtain⟨d0,ed0⟩:=Option.isSome_iff_exists.mp hin;obtain⟨vv,ev,_⟩:=(v_5 k0 hkc rlc).2 d0 ed0;obtain⟨p1,p2⟩:=ar_6 k0 hkc rlc;exact⟨kvc,k0,vv,st2.hh _ _ hHc,rfl,ev,q σ G2 _ _ (E2.writeD s1 mc p1 (p2.mono st2.gg)) st2.gg⟩
     ·exact q.elim
    ·exact q.elim
  ·exact q.elim
end
theorem bn_7{c:Bool}{P:Program}{w:World}{x qual:Str}{st:Stmt}{f:Addr}{N ps:List Str}{k n:Nat}{g:FS}(F:Fun K x qual st f fd)(hn:ps.length=n + 1)(hle:ps.length<=N.length)
  (zj:HBd c P w K mg base N qual st f k g) (S:FnScope N ps (Ci st):=by exact⟨rfl,rfl,rfl,by decide +kernel,rfl,by decide +kernel,by decide +kernel⟩):FnX P w K mg base c (k + 1) f fd ps (spR K n (u_4 N.length g)):=
 fn_R F S hn hle λzq A outer s H E hr=>zj rfl hr (RoomC.units hr) S.nd bs_7
theorem dr_9{c:Bool}{P:Program}{w:World}{x qual cn:Str}{st:Stmt}{f C:Addr}{N ps:List Str}{k n:Nat}{g:FS}(F:Fun K x qual st f fd)(hC:ClsAt K cn C)(hn:ps.length=n + 1)(hle:ps.length<=N.length)
  (zj:HBd c P w K mg base N qual st f k g) (S:FnScope N ps (Ci st):=by exact⟨rfl,rfl,rfl,by decide +kernel,rfl,by decide +kernel,by decide +kernel⟩):FnX P w K mg base c (k + 1) f fd ps (spJ K C cn n (y_4 N.length cn g)):=
 fn_J F S hC hn hle λzq A outer s H E hr=>zj rfl hr (RoomC.units hr) S.nd bs_7
section
variable{P:Program}{w:World}{K:Frag}{mg:Str->Option Value}{base:Heap}{cc:Bool}{k n:Nat}{ps:List Str}{st:Stmt}{Fn:Tn->List D->RR}{m q c:Str}{C:Addr}
theorem ca_4(xa:ClsAt K c C)(cl:Cls K C)(W:FnMet K C m q st)(ok:∀{f:Addr} {fd:FuncData},Fun K m q st f fd->FnX P w K mg base cc k f fd ps (spR K n Fn)/\Binds K fd ps []):MethR P w K mg base cc k n m c Fn:=by
 obtain⟨f,a,⟨fd,F⟩,kp,i⟩:=W;exact⟨⟨C,f,fd,ps,xa,cl,⟨a,i,kp⟩,(ok F).1,(ok F).2⟩⟩
theorem db_5{x:Str}{h:Heap}(X:K.In h)(G:h.Ns mainGlobals mg)(W:FnTop K x st)(ok:∀{f:Addr} {fd:FuncData},Fun K x x st f fd->FnX P w K mg base cc k f fd ps (spR K n Fn)/\Binds K fd ps []):FnRd P w K mg base cc x k n ps Fn:=by
 obtain⟨f,a,fd,F⟩:=W;exact dm_8 F (mg_of X G a) (ok F).2 (ok F).1
theorem dm_9{Fi:List D->R (List Str×List Tn)}(xa:ClsAt K c C)(gx:mg c=some (.ref C))(ms:makesIn K C=true)(kc:keepIn K (.ref C)=true)(W:FnMet K C "__init__" q st)(ok:∀{f:Addr} {fd:FuncData},Fun K "__init__" q st f fd->FnX P w K mg base cc k f fd ps (spJ K C c n Fi)/\Binds K fd ps []):MakJ P w K mg base cc c k n Fi:=by
 obtain⟨f,a,⟨fd,F⟩,kp,i⟩:=W;exact⟨C,f,fd,ps,xa,gx,⟨ms,a,i,kc⟩,(ok F).1,(ok F).2⟩
end
theorem db_6{Δ:SE}{i:Nat}{s:Sl}{t t':Tn}{lk:Bool}(e:Δ[i]? =some s)(q:s.tree=some (t,lk)):As (Δ.set i (Sl.mk lk t'))=As Δ:=by
 unfold As;rw [List.map_set];apply List.ext_getElem?;intro j
 by_cases h:i=j
 ·subst h;have hlt:i < Δ.length:=(List.getElem?_eq_some_iff.mp e).1;rw [List.getElem?_set_self (by rw [List.length_map];exact hlt),List.getElem?_map,e];cases lk <;> cases s <;> first|rfl|cases q
 ·rw [List.getElem?_set_ne h]
def sSdb(i:Nat)(f1 f2:FE):FS:=λ Δ=>match(Δ[i]?).bind Sl.tree with
 |some (.dic zm,lk)=>(match f1 (Bb Δ) with
   | .ok z1=>(match Ee z1.d with
    |some k1=>if zm.length < 16777216 then(match Bh (sdK zm k1) k1 with
     |some (.lst ts)=>if ts.length < 16777216 then(match f2 (As Δ) with
      | .ok z2=> .nx (Δ.set i (Sl.mk lk (.dic (Cu (sdK zm k1) k1 (.lst (ts ++ [.sh z2.d]))))))
      |_=> .no) else .no
     |_=> .no) else .no
    |none=> .no)
   |_=> .no)
 |_=> .no
section
variable{X:Cx}{EX:Ay}{pos:Pos}
theorem ca_5{H0:HB}{G0 G H:Hp}{σ:Sg}{Δ:SE}{O:OS}{D:Ends}{i:Nat}{s:Sl}{zm:List (Af×Tn)}{lk:Bool}{k:Af}{ts:List Tn}{f2:FE}{z2:W}(E:Ev K H0 G0 G H σ Δ O)(e1:Δ[i]? =some s)(etr:s.tree=some (.dic zm,lk))(ev:Bh zm k=some (.lst ts))(hz:ts.length < 16777216)(ef:f2 (As Δ)=.ok z2)
  (q:∀σ' G' H' O',Ev K H0 G0 G' H' σ' (Δ.set i (Sl.mk lk (.dic (Cu zm k (.lst (ts ++ [.sh z2.d])))))) O'->Same G G'->D.nx σ' H'):
  ∃c a kvs,σ[i]? =some (some (.ref a))/\H a=some (.dK kvs)/\Ch kvs k=some (.ref c)/\tyV K "list" (.ref c) H/\tD K EX f2 σ H λy H2=>bd_4 (.ref c) [y] H2 λ_ H3=>D.nx σ H3:=by
 obtain⟨v0,s1,t⟩:=E.ow i _ _ e1 (Sl.tree_own etr);obtain⟨a,kvs,S1,rfl,m,hH,hk,sub,rl⟩:=t.dic_of;obtain⟨vc,Sc,ec,tc,ic,fc⟩:=OwL.focusK k hk rl ev;cases tc with
 |lst hc mc subc rc=>
  rename_i c vs S2;have hca:c≠a:=(sub c (ic c mc)).2;refine⟨c,a,kvs,s1,hH,ec,.inl ⟨rfl,_,SqL.of hc⟩,G,As Δ,E.st.gh,E.gsh, ?_⟩;rw [ef];refine WP.intro λy G2 H2 st2 r2=> ?_;have E2:=E.grow st2;have zk:vs.length < sizeLine:=by rw [rc.length,sizeLine_eq];exact hz
  refine⟨c,vs,y,rfl,rfl,st2.hh _ _ hc,zk, ?_⟩;refine q σ G2 _ _ (E2.writeIn e1 etr s1 (sub c (ic c mc)).1 ?_) st2.gg;obtain⟨vc',Sc',ec',tc',ic',fc'⟩:=OwL.focusK k hk (OwL.mono st2.gg rl (λ_ _ _ z=>z) λ_ z=>z) ev;rw [ec] at ec';cases ec';cases tc' with
  |lst hc' mc' subc' rc'=>
   rename_i vs' S2';rw [hc] at hc';cases hc';refine Ow.dic (S1:=S1) (by rw [An (Ne.symm hca)];exact st2.hh _ _ hH) (by rw [ai_4];exact hk) m sub ?_;refine fc' (λb o hb nb z=> ?_) ?_
   ·rw [An (show b≠c from λw=>nb (by rw [w];exact mc'))];exact st2.hh _ _ z
   ·refine Ow.lst (S1:=S2') Ba mc' subc' (OwL.append (S2:=λ_=>False) (rc'.mono (Same.refl _) (λb o hb z=> ?_) λ_ z=>z) (.cons (S1:=λ_=>False) (S2:=λ_=>False) (.sh r2) .nil (λ_ z=>z.elim) (λ_ z=>z) λ_ z=>z) (λ_ _ z=>z) (λ_ z=>z) λ_ z=>z.elim);rw [An (subc' b hb).2];exact st2.hh _ _ z
theorem cq_2{i:Nat}{x:Str}{e1 e2:Expr}{f1 f2:FE}{p1 lp a1 c1 zg zf:Pos}(h1:ED X EX e1 f1)(h2:ED X EX e2 f2)(hN:X.N[i]? =some x:=by rfl)(hv:Fu X.env.scope x:=by first|exact Or.inl rfl|exact Or.inr (Or.inl rfl)|exact Or.inr (Or.inr rfl))(hd:(x ==("__debug__" :Str))=false:=by decide)
  (hcd:(x ==("__classdict__" :Str))=false:=by decide) (hm:M2 X (.Name x p1) "setdefault" a1 e1 (.List [] lp) c1:=by exact⟨rfl,rfl,rfl,rfl⟩)
  (hsw:swapsWith (.Call (.Attribute (.Call (.Attribute (.Name x p1) "setdefault" a1) [e1,.List [] lp] [] c1) "append" zg) [e2] [] zf) none pos.line X.env=pure false:=by rfl)
  (af:attributeBase (.Call (.Attribute (.Name x p1) "setdefault" a1) [e1,.List [] lp] [] c1) "append" X.env (eval (.Call (.Attribute (.Name x p1) "setdefault" a1) [e1,.List [] lp] [] c1) X.env)=eval (.Call (.Attribute (.Name x p1) "setdefault" a1) [e1,.List [] lp] [] c1) X.env:=by rfl)
  (ba:((backTo zf (starEach [e2] X.env)).all (λx=> !x.1) && (backToKw zf (keywordEach [] X.env)).all (λx=>x.1.isSome)
   && decide ([e2].length + ([]:List Keyword).length + (if([]:List Keyword).isEmpty then 0 else 1) < 30))=true:=by rfl)
  (ag:(zg.endLine ==zf.line)=true:=by rfl) (hs:starEach [e2] X.env=(false,eval e2 X.env)::starEach [] X.env:=by rfl) (ah:(backTo zf (starEach [] X.env)).any (·.1)=false:=by rfl):
  SD X EX (.Expr (.Call (.Attribute (.Call (.Attribute (.Name x p1) "setdefault" a1) [e1,.List [] lp] [] c1) "append" zg) [e2] [] zf) pos) (sSdb i f1 f2):=
 PS.imp (u_8 (bx_2 PySem.F.plainAttrs_list PySem.F.slot_list_append PySem.F.type_list_append ag_9 (da_5 (Ft hN hv hd hcd) h1 (bd_0 o_9) hm) (i_7 h2 o_9 hs) af ba ag hs ah) hsw) λD σ H ⟨H0,G0,G,Δ,O,E,q⟩=>by
  unfold sSdb at q
  split at q
  ·rename_i zm lk e0;obtain⟨s,e1,etr⟩:=Option.bind_eq_some_iff.mp e0;obtain⟨v0,s1,t⟩:=E.ow i _ _ e1 (Sl.tree_own etr);obtain⟨a,kvs,S1,rfl,m,hH,hk,sub,rl⟩:=t.dic_of;refine⟨.ref a,s1,a,rfl,.inl ⟨kvs,.inl hH⟩,x_4 G H O,Bb Δ,E.aH,E.gall, ?_⟩;cases e3:f1 (Bb Δ) with
   |ex x=>simp only [e3] at q;exact q.elim
   |no=>simp only [e3] at q;exact q.elim
   |ok z1=>
    simp only [e3] at q;refine WP.intro λv1 G1 H1 st1 r1=> ?_
    split at q
    ·rename_i k1 ek1
     split at q
     ·rename_i hl
      split at q
      ·rename_i ts ev
       split at q
       ·rename_i hz;cases e4:f2 (As Δ) with
        |ex x=>simp only [e4] at q;exact q.elim
        |no=>simp only [e4] at q;exact q.elim
        |ok z2=>
         simp only [e4] at q
         ·have hv1:=t_4 r1 ek1;subst hv1;refine⟨Nat.zero_le _,λp hp=> ?_⟩;have E3:=E.keep st1.hh;have E5:=E3.keep (g_4 hp (.lst []));have hle:kvs.length=zm.length:=by
           have:=congrArg List.length hk
           rwa [List.length_map,List.length_map] at this
          have hH5:upd H1 p (.lst []) a=some (.dK kvs):=g_4 hp _ _ _ (st1.hh _ _ hH);refine⟨kvs,k1,hH5,rfl,by rw [hle,sizeLine_eq];exact hl,λv hv=> ?_,λhn=> ?_⟩
          ·have hA:sdK zm k1=zm:=by
            unfold sdK;cases hA:Bh zm k1 with
            |some t=>rfl
            |none=>rw [bm_3 hk hA] at hv;cases hv
           rw [hA] at ev q;obtain⟨c,a',bj,s1',hH',ec,ty,td⟩:=ca_5 (D:=D) (EX:=EX) E5 e1 etr ev hz e4 q;rw [s1] at s1';cases s1';rw [hH5] at hH';cases hH';rw [hv] at ec;cases ec;exact⟨ty,td⟩
          ·have hA:Bh zm k1=none:=by
            cases hA:Bh zm k1 with
            |none=>rfl
            |some t=>
             obtain⟨v',_,ev',_⟩:=OwL.focusK k1 hk rl hA;rw [hn] at ev';cases ev'
           have hK:sdK zm k1=zm ++ [(k1,.lst [])]:=by unfold sdK;rw [hA]
           rw [hK] at ev q;have npO:∀j b,O j b->b≠p:=λj b hb z=>by
            have h0:=(E.out j b hb).2.2;cases e:H b with
            |none=>exact h0 e
            |some o=>rw [z] at e;rw [st1.hh _ _ e] at hp;cases hp
           have hap:a≠p:=npO i a m;have ft:(kvs.any λkv=>decide (kv.1=k1))=false:=by
            rw [x_1,hn];rfl
           have df:El kvs k1 (.ref p)=kvs ++ [(k1,.ref p)]:=by
            rw [by_7];unfold Cr;rw [ft];rfl
           rw [df];have Gp:G p=none:=E3.st.gh.free hp;have old:∀b o,H1 b=some o->upd H1 p (.lst []) b=some o:=λb o z=>g_4 hp _ b o z;have hp1:upd H1 p (.lst []) p=some (.lst []):=Ba;have ms:MStep2 (O i) G H1 G (upd (upd H1 p (.lst [])) a (.dK (kvs ++ [(k1,.ref p)]))):=⟨λb o nb z=>by rw [An (λw=>nb (by rw [w];exact m))];exact old b o z,λb o z=>by
            have:b≠a:=λw=>by rw [w,(E.out i a m).1] at z;cases z
            rw [An this];exact old b o (E3.st.gh b o z),Same.refl _,λb _ z _=>z⟩
           have E6:Ev X.K H0 G0 G (upd (upd H1 p (.lst [])) a (.dK (kvs ++ [(k1,.ref p)]))) σ (Δ.set i (Sl.mk lk (.dic (zm ++ [(k1,.lst [])])))) (Fm O i λb=>O i b\/b=p):=by
            refine E3.step2 (S:=λb=>O i b\/b=p) (Sl.mk_own lk _) (Sl.mk_lk lk _) (E3.mk_lt e1 etr _) ms s1 (λb hb=> ?_) ?_
            ·rcases hb with hb|hb
             ·refine⟨.inl hb,(E3.out i b hb).1, ?_⟩
              by_cases w:b=a
              ·rw [w,Ba];simp
              ·rw [An w];cases e:H1 b with
               |none=>exact absurd e (E3.out i b hb).2.2
               |some o=>rw [old b o e];simp
             ·subst hb;exact⟨.inr hp,Gp,by rw [An (Ne.symm hap),hp1];simp⟩
            ·refine Ow.dic (S1:=λb=>S1 b\/b=p) Ba (by rw [List.map_append,List.map_append,hk];rfl) (.inl m) (λb hb=> ?_) ?_
             ·rcases hb with hb|hb
              ·exact⟨.inl (sub b hb).1,(sub b hb).2⟩
              ·subst hb;exact⟨.inr rfl,Ne.symm hap⟩
             ·rw [List.map_append,List.map_append];refine OwL.append (S2:=λb=>b=p) (rl.mono (Same.refl _) (λb o hb z=> ?_) λ_ z=>z) (.cons (S1:=λb=>b=p) (S2:=λ_=>False) (.lst (S1:=λ_=>False) (by rw [An (Ne.symm hap)];exact hp1) rfl (λ_ z=>z.elim) .nil) .nil (λ_ _ z=>z) (λ_ z=>z) λ_ z=>z.elim) (λb z1 z2=>npO i b (sub b z1).1 z2) (λb z=> .inl z) λb z=> .inr z;rw [An (sub b hb).2];exact old _ _ (st1.hh _ _ z)
           have hlt:i < Δ.length:=(List.getElem?_eq_some_iff.mp e1).1;obtain⟨c,a',bj,s1',hH',ec,ty,td⟩:=ca_5 (D:=D) (EX:=EX) (lk:=lk) E6 (s:=Sl.mk lk (.dic (zm ++ [(k1,.lst [])]))) (by rw [List.getElem?_set_self hlt]) (by cases lk <;> rfl) ev hz (by rw [db_6 e1 etr];exact e4) (λ σ' G' H' O' E' sg=>q σ' G' H' O' (by rw [List.set_set] at E';exact E') sg);rw [s1] at s1';cases s1';rw [Ba] at hH';cases hH';rw [<-df,cl_5,if_pos rfl] at ec;cases ec;exact⟨ty,td⟩
       ·exact q.elim
      ·exact q.elim
     ·exact q.elim
    ·exact q.elim
  ·exact q.elim
end
def bn_8(a b:D):R W:=match a,b with
 | .dic ka,.dic []=> .ok (.sh (.bl (!ka.isEmpty)))
 |_,_=> .no
def cq_3(fk fv:FE):FE:=λ δ=>(fk δ).bind λk=>match Ee k.d with
 |some kk=>(fv δ).bind λv=> .ok (.ow (.dic [(kk,v.d)]))
 |none=> .no
def bn_9(i j:Nat)(f:FE):FS:=λ Δ=>match Δ[j]? with
 |some (.ow (.lst es))=>(match f (Bb Δ) with
  | .ok z=>(match z.d with
   | .int k=>if 0<=k/\k < (es.length:Int)/\es.length<=16777216 then(match es[k.toNat]? with
    |some d=> .nx ((Δ.set j (.ow (.lst (es.eraseIdx k.toNat)))).set i (.sh d))
    |none=> .no) else .no
   |_=> .no)
  |_=> .no)
 |_=> .no
def eKL(f:FE):FE:=λ δ=>(f δ).bind λw=>match w.d with
 | .dic kds=> .ok (.ow (.lst (kds.map λp=>kD p.1)))
 |_=> .no
section
variable{X:Cx}{EX:Ay}{pos:Pos}
theorem cq_4(hu:X.A.units + 64 < cLine):Ea X (compareOp .NotEq) bn_8:=by
 intro zd s σ H x y v u Q I rx ry h;obtain⟨EX,G,a,b,g,ha,hb,o⟩:=h;cases ha with
 |dic h1 hk1 r1=>
  rename_i a1 kvs1 kds1;cases hb with
  |dic h2 hk2 r2=>
   rename_i a2 kvs2 aa;cases aa with
   |cons _ _=>exact False.elim o
   |nil=>
    cases rx;cases ry;obtain⟨z1,lo1,ws1,kv1,dd1⟩:=q_6 I.hok (Same.rdD g h1);obtain⟨z2,lo2,ws2,kv2,dd2⟩:=q_6 I.hok (Same.rdD g h2);have e2:kvs2= []:=List.map_eq_nil_iff.mp hk2;subst e2;cases kv2;have hl:ws1.length=kds1.length:=by
     rw [<-kv1.length];have:=congrArg List.length hk1
     rwa [List.length_map,List.length_map] at this
    refine keq_ne (r:=true) lo1 lo2 dd1 dd2 (by omega) (λe=> ?_) ?_
    ·have:ws1= []:=List.eq_nil_of_length_eq_zero e;subst this;exact .nil
    ·have e3:(!(ws1.length ==([]:List (Af×Value)).length && true))= !kds1.isEmpty:=by
      cases kds1 with
      |nil=>rw [List.length_nil] at hl;rw [hl];rfl
      |cons p r=>rw [List.length_cons] at hl;rw [hl];simp
     rw [e3];exact⟨.bl _,H,I,rfl,(show WP X.K G H (.sh (.bl (!kds1.isEmpty))) Q from o).use g (.bl _)⟩
  |_=>exact False.elim o
 |_=>exact False.elim o
theorem db_7{e1 e2:Expr}{fk fv:FE}(hk:ED X EX e1 fk)(hv:ED X EX e2 fv):ED X EX (.Dict [some e1] [e2] pos) (cq_3 fk fv):=
 PE.imp (cx_0 (cl_8 hk hv cw_9) rfl rfl (by simp) (Nat.le_of_ble_eq_true rfl)) λ σ H Q ⟨G,δ,g0,s0,o⟩ p hp=>by
  have so:=Step.own g0 hp (.dK []);unfold cq_3 at o;refine⟨G,δ,so.gh,s0, ?_⟩;cases ek:fk δ with
  |ex x=>rw [ek] at o;exact(EX σ).mono _ _ _ _ _ so o
  |no=>rw [ek] at o;exact o
  |ok wk=>
   rw [ek] at o;simp only [R.bind_ok] at o;refine WP.intro λv1 G1 H1 st1 r1=>⟨G1,δ,st1.gh,s0.mono st1.gg, ?_⟩;cases ekk:Ee wk.d with
   |none=>rw [ekk] at o;exact False.elim o
   |some kk=>
    rw [ekk] at o;simp only at o;have hv1:=t_4 r1 ekk;subst hv1;cases ev:fv δ with
    |ex x=>rw [ev] at o;exact(EX σ).mono _ _ _ _ _ (so.trans st1) o
    |no=>rw [ev] at o;exact o
    |ok wv=>
     rw [ev] at o;simp only [R.bind_ok] at o;refine WP.intro λv2 G2 H2 st2 r2=> ?_;have st:=(so.trans st1).trans st2;have hp2:H2 p=some (.dK []):=st2.hh _ _ (st1.hh _ _ Ba);have gp:G p=none:=g0.free hp;have gp2:G2 p=none:=st2.nw p (st1.nw p gp (by rw [Ba];simp)) (by rw [st1.hh _ _ Ba];simp);refine⟨hp2,[(kk,v2)],rfl,Nat.le_of_ble_eq_true rfl, ?_⟩;refine(show WP X.K G H (.ow (.dic [(kk,wv.d)])) Q from o) (.ref p) (λb=>b=p) G2 _ ⟨λb o' z=> ?_,λb o' z=> ?_,st.gg,st.nw⟩ (λa ha=> ?_) ?_
     ·rw [An (Ef z hp)];exact st.hh b o' z
     ·rw [An (Ef z gp2)];exact st.gh b o' z
     ·subst ha;exact⟨hp,gp2,by rw [Ba];simp⟩
     ·exact Ow.dict Ba rfl rfl (.cons r2 .nil)
theorem db_8{i j:Nat}{x y:Str}{e:Expr}{f:FE}{p1 p2 zg zf:Pos}(he:ED X EX e f)(hN:X.N.Nodup)(hi:X.N[i]? =some x:=by rfl)(hx:Fb X.env.scope x:=by first|exact Or.inl rfl|exact Or.inr rfl)(hj:X.N[j]? =some y:=by rfl)(hv:Fu X.env.scope y:=by first|exact Or.inl rfl|exact Or.inr (Or.inl rfl)|exact Or.inr (Or.inr rfl))(hd:(y ==("__debug__" :Str))=false:=by decide)
  (hcd:(y ==("__classdict__" :Str))=false:=by decide) (hs:swapsWith (.Call (.Attribute (.Name y p1) "pop" zg) [e] [] zf) (some (.Name x p2)) pos.line X.env=pure false:=by rfl)
  (hf:X.fn x=true\/X.env.scope.names.lookup x=some .local:=by first|exact .inl rfl|exact .inr rfl|assumption)
  (hb2:attributeBase (.Name y p1) "pop" X.env (eval (.Name y p1) X.env)=eval (.Name y p1) X.env:=by rfl)
  (hw2:((backTo zf (starEach [e] X.env)).all (λx=> !x.1) && (backToKw zf (keywordEach [] X.env)).all (λx=>x.1.isSome)
   && decide ([e].length + ([]:List Keyword).length + (if([]:List Keyword).isEmpty then 0 else 1) < 30))=true:=by rfl)
  (hl2:(zg.endLine ==zf.line)=true:=by rfl) (hs2:starEach [e] X.env=(false,eval e X.env)::starEach [] X.env:=by rfl) (hp2:(backTo zf (starEach [] X.env)).any (·.1)=false:=by rfl):
  SD X EX (.Assign [.Name x p2] (.Call (.Attribute (.Name y p1) "pop" zg) [e] [] zf) pos) (bn_9 i j f):=
 PS.imp (bq_6 hN hi hx (bx_2 PySem.F.plainAttrs_list PySem.F.slot_list_pop PySem.F.type_list_pop ck_6 (Ft hj hv hd hcd) (i_7 he o_9 hs2) hb2 hw2 hl2 hs2 hp2) hs hf) λD σ H ⟨H0,G0,G,Δ,O,E,q⟩=>by
  unfold bn_9 at q
  split at q
  ·rename_i es e2;obtain⟨v1,s2,t2⟩:=E.ow j _ _ e2 rfl;obtain⟨b,us,rfl,m2,hB,rb⟩:=t2.list_of;refine⟨.ref b,s2,.inl ⟨rfl,_,SqL.of hB⟩,x_4 G H O,Bb Δ,E.aH,E.gall, ?_⟩;cases e3:f (Bb Δ) with
   |ex x=>simp only [e3] at q;exact q.elim
   |no=>simp only [e3] at q;exact q.elim
   |ok z=>
    simp only [e3] at q;refine WP.intro λv2 G2 H2 st2 r2=> ?_;revert q r2;cases z.d with
    |int k=>
     intro q r2;cases r2;simp only at q
     split at q
     ·rename_i hk;cases e4:es[k.toNat]? with
      |none=>simp only [e4] at q;exact q.elim
      |some d=>
       simp only [e4] at q;obtain⟨v,e5,hv5⟩:=rb.get e4;have sz:seqIndex? k us.length=some k.toNat:=by
        rw [rb.length];unfold seqIndex?;simp only;have hn:¬k < 0:=by omega
        rw [if_neg hn,if_pos (by simp [hk.1,hk.2.1])]
       refine⟨b,us,k,k.toNat,v,rfl,rfl,st2.hh _ _ hB,by omega,by omega,sz,e5, ?_⟩;exact q _ G _ _ (((E.keep st2.hh).writeL s2 m2 (rb.eraseIdx k.toNat)).put hv5) (Same.refl _)
     ·exact q.elim
    |_=>intro q _;exact False.elim q
  ·exact q.elim
def df_8(to:TE):TE:=λ σ H Q=>to σ H λx H1=>∃a kvs,x=.ref a/\Rd H1 a (.dK kvs)/\∀p,H1 p=none->Q (.ref p) (upd H1 p (.ext λh=>KdlKeysView h p a))
theorem db_9{o:Expr}{to:TE}{zg zf:Pos}(ho:PE X o to)(af:attributeBase o "keys" X.env (eval o X.env)=eval o X.env:=by rfl)(ag:(zg.endLine ==zf.line)=true:=by rfl):PE X (.Call (.Attribute o "keys" zg) [] [] zf) (df_8 to):=by
 intro zd s σ H Q I h;refine wpAny_Call_method0_late af ag (Aw (ho zd s σ H _ I h) λv s1 ⟨x,H1,I1,r1,a,kvs,ex,rd,q⟩=> ?_);subst ex;obtain rfl:v=Value.ref a:=r1;obtain⟨z,lo,ws,kv,dd⟩:=q_6 I1.hok rd;refine⟨"dict","dict.keys",PySem.F.plainAttrs_dict,PySem.F.slot_dict_keys,PySem.F.type_dict_keys,dd.typeIs,dd.mapOf.noDict,Calls.callWith_builtin rfl (PySem.evalArgs_none ?_)⟩;refine call_meetsIn PySem.F.slot_dict_keys dd.typeIs PySem.F.entry_dict_keys (PySem.F.args_dict_keys_1 _) (kdl_meets_keys (Di X.prog X.w) a lo) ⟨⟨ws,dd⟩, ?_⟩;have hf:H1 s1.heap.objs.size=none:=I1.hok.fresh (Nat.le_refl _);refine⟨.ref s1.heap.objs.size,_,I1.laid (t':=s1.toks) (λb u e=>Heap.get?_push_of_some _ e) (Nat.le_refl _) ?_,rfl,q _ hf⟩;have hv:KdlKeysView (s1.heap.push {cls:=.type "dict_keys",data:=.fields #[.ref a]}) s1.heap.objs.size a:=⟨_,Heap.get?_push_size _ rfl,rfl,rfl⟩;exact⟨hv,⟨_,Heap.get?_push_size _ rfl⟩,λh1 h2 ⟨o,e1,e2⟩ k=>⟨o,k o e1,e2⟩⟩
theorem cq_5{o:Expr}{f:FE}{p zg zf:Pos}(hc:X.calm=true)(hm:X.mg "list" =none)(he:ED X EX o f)(hg:Gl X "list" :=by rfl)(af:attributeBase o "keys" X.env (eval o X.env)=eval o X.env:=by rfl)(ag:(zg.endLine ==zf.line)=true:=by rfl)
  (hs:starEach [.Call (.Attribute o "keys" zg) [] [] zf] X.env= [(false,eval (.Call (.Attribute o "keys" zg) [] [] zf) X.env)]:=by rfl) (hs1:starEach [.Call (.Attribute o "keys" zg) [] [] zf] X.env=(false,eval (.Call (.Attribute o "keys" zg) [] [] zf) X.env)::starEach [] X.env:=by rfl):
  ED X EX (.Call (.Name "list" p) [.Call (.Attribute o "keys" zg) [] [] zf] [] pos) (eKL f):=by
 intro zd s σ H Q I h;obtain⟨G,δ,g0,s0,h⟩:=h;have ta:ck_2 (df_8 (tD X.K EX f)) tNil σ H λvs H2=>∃(G1 H1:Hp) (a:Addr) (kvs:List (Af×V)) (kds:List (Af×D)) (pv:Addr),vs= [.ref pv]/\H1 pv=none/\H2=upd H1 pv (.ext λh=>KdlKeysView h pv a)/\Same G1 H1/\Rd G1 a (.dK kvs)/\kvs.map (·.1)=kds.map (·.1)/\WP X.K G1 H1 (.ow (.lst (kds.map λp:Af×D=>kD p.1))) Q:=by
  refine tD.seq g0 s0 h λw v G1 H1 _ st r o'=> ?_;revert o' r;cases w.d with
  |dic kds=>
   intro r o';cases r with
   |dic hr hk rr=>exact⟨_,_,rfl,Same.rdD st.gh hr,λpv hp=>⟨G1,H1,_,_,kds,pv,rfl,hp,rfl,st.gh,hr,hk,o'⟩⟩
  |_=>intro _ o';exact False.elim o'
 refine Call_ (ac_5 I hg hm PyProof.Rows.boot_list (PyProof.Rows.callWith_type1 (Aw ((i_7 (db_9 he af ag) o_9 hs1) pos zd s σ H _ I ta) λus s1 ⟨vs,H2,I2,r1,G1,H1,a,kvs,kds,pv,ev,hp,eH,g1,rd,hk,q⟩=> ?_) hs rfl));subst ev;obtain⟨u,rfl,ru⟩:=r1.one;cases ru;have hv:H2 pv=some (.ext λh=>KdlKeysView h pv a):=by rw [eH,Ba]
 have g2:Same H1 H2:=by rw [eH];exact g_4 hp _
 obtain⟨vw,_,_⟩:=I2.hok pv _ hv;obtain⟨z,lo,ws,kv,dd⟩:=q_6 I2.hok (Same.rdD (g1.trans g2) rd);obtain⟨ep,da⟩:=dd.dictAt;refine kdl_call (kdl_keys (r:=pv) (d:=a)) (I2.ok.hd hc) ⟨vw,da⟩ (by rw [<-kv.length];exact z) λh' tk zp c kk hat it=> ?_;have rv':Vals ((kvs.map (·.1)).map kV) zp.toList:=ai_5 kv (by rw [Array.length_toList];exact it.1) λj v e=>it.2 j v (by rw [<-Array.getElem?_toList];exact e);have fr:H2 s1.heap.objs.size=none:=I2.hok.fresh (Nat.le_refl _);refine⟨.ref _,upd H2 _ (.lst _),I2.laid (t':=tk) kk (Nat.le_refl _) ⟨?_,zp.toList,c,rv',by simpa using hat⟩,rfl, ?_⟩
 ·rw [List.length_map,List.length_map];exact z
 ·have e:(kds.map λp=>kD p.1)=(kvs.map (·.1)).map kD:=by rw [hk,List.map_map];rfl
  rw [e] at q;have st:Step G1 H1 G1 H2:=⟨g2,g1.trans g2,Same.refl _,λ_ n _=>n⟩;exact v_1 (EX:=EX0) (show Out X.K EX0 G1 H2 (.ok (.ow (.lst ((kvs.map (·.1)).map kD)))) Q from WP.mono st q) (g1.trans g2) (bz_0 _) _ fr
end
end L3
namespace PySem.W
open PySem PySem.Calls PyProof.Rows PySem.Spec
section
variable{prog:Program}{w:World}{A:Around}{E:Value->Shared->Prop}{s:Shared}{T:String}{r d:Addr}{n:Nat}{P:Nat->Value->Prop}{OK:Heap->Prop}
theorem collect_kdl{Q:List Value->Shared->Prop}(K:KdlSrc prog w T r d n P OK)(hh:A.handled=none)(hok:OK s.heap)(hn:n<=sizeLine)
  (hQ:∀h' tk zp,(∀b o,s.heap.get? b=some o->h'.get? b=some o)->s.heap.objs.size<=h'.objs.size->ItemsOf P zp n->Q zp.toList {s with heap:=h',toks:=tk}):wpAny (model prog w) A (collect (.ref r)) Q E s:=by
 have hlt:=K.there _ hok;unfold collect;refine wpAny_bind (wpAny_runValue (codeAny_builtin PySem.F.entry_proto_collect ?_));rw [Around.under_plainId PySem.F.plain_proto_collect _];show wpAny _ A.in1 (newList [] >>=λl=>again (.builtin "list.__iadd__" ⟨[l,.ref r],[]⟩)) _ _ s;refine wpAny_bind (wpAny_newObj_type ?_);refine wpAny_pure ⟨plainId_quiet PySem.F.plain_list_iadd _,codeAny_builtin PySem.F.entry_list_iadd ?_⟩;rw [Around.under_plainId PySem.F.plain_list_iadd _];have hS₁:(s.heap.push {cls:=.type "list",data:=.seq ([]:List Value).toArray}).get? s.heap.objs.size=some {cls:=.type "list",data:=.seq #[] 0}:=Heap.get?_push_size _ rfl;show wpAny _ A.in1 (Builtin.List.listExtendWith (.ref s.heap.objs.size) (.ref r) (.ref s.heap.objs.size)) _ _ _;have fin:∀{rr:Result} {s':Shared},(∃h' tk aw c',rr=.ok (.ret (.ref s.heap.objs.size))/\s'={s with heap:=h',toks:=tk}/\(∀b o,b≠s.heap.objs.size->(s.heap.push {cls:=.type "list",data:=.seq ([]:List Value).toArray}).get? b=some o->h'.get? b=some o)/\h'.get? s.heap.objs.size=some {cls:=.type "list",dict:=none,data:=.seq aw c',slots:= #[]}/\ItemsOf P aw n)->
   rr=.ok (.ret (.ref s.heap.objs.size))/\wpAny (model prog w) A (load s.heap.objs.size >>=λo=>match o.data with| .seq xs _=>pure xs.toList|_=>unsupported "internal:collect") Q E s':=by
  rintro rr s' ⟨h',tk,aw,c',rfl,rfl,hk,hS',bq⟩
  refine⟨rfl,wpAny_bind (wpAny_load hS' ?_)⟩;exact wpAny_pure (hQ h' tk aw (λb o e=>hk b o (Nat.ne_of_lt (Heap.lt_size e)) (Heap.get?_push_of_some _ e)) (Nat.le_of_lt (Heap.lt_size hS')) bq)
 refine wpAny_mono (kdl_extend (R:=λrr s'=>∃h' tk aw c',rr=.ok (.ret (.ref s.heap.objs.size))/\s'={s with heap:=h',toks:=tk}/\(∀b o,b≠s.heap.objs.size->(s.heap.push {cls:=.type "list",data:=.seq ([]:List Value).toArray}).get? b=some o->h'.get? b=some o)/\h'.get? s.heap.objs.size=some {cls:=.type "list",dict:=none,data:=.seq aw c',slots:= #[]}/\ItemsOf P aw n)
  (s:={s with heap:=s.heap.push {cls:=.type "list",data:=.seq ([]:List Value).toArray}}) K hh (K.keep _ _ hok λb _ o e=>Heap.get?_push_of_some _ e) s.heap.objs.size (Nat.ne_of_gt hlt.1) (Nat.ne_of_gt hlt.2) (.ref s.heap.objs.size) 0 hS₁ (λh' tk aw c' hk hS' bq=>⟨h',tk,aw,c',rfl,rfl,hk,hS',bq⟩) hn) (λf s' hf=> ?_) λe s' hf=> ?_
 ·cases f with
  |done f=>
   obtain⟨e,q⟩:=fin hf;cases e;exact q
  |again c'=>
   refine⟨hf.1,codeAny_mono hf.2 λrr s'' h=> ?_⟩;obtain⟨e,q⟩:=fin h;cases e;exact q
 ·obtain⟨e,_⟩:=fin hf;cases e
end
section
variable{prog:Program}{w:World}{A:Around}{E:Value->Shared->Prop}{s:Shared}{a kS:Addr}{vs:List Value}{kz:List Int}{e1:Nat}{P:PySem.Fin->Shared->Prop}
theorem ksk_restJ{f:Value}(J:Nat->Array Value->Shared->Prop)(j0:J 0 #[] s)(zk:kz.length=vs.length)(h64:vs.length < 64)
  (turn:∀(i:Nat) (v:Value) (k:Int) (kA:Array Value) (s':Shared),vs[i]? =some v->kz[i]? =some k->J i kA s'->
   wpAny (model prog w) A (call f [v]) (λu s''=>∃t e,u=.int k t/\s''.heap.get? kS=some (seqObj "list" kA e)/\J (i + 1) (kA.push u) {s'' with heap:=s''.heap.update kS (Obj.mapSeq (·.push u))}) (λ_ _=>False) s')
  (at_:∀i kA s',J i kA s'->∃e,s'.heap.get? kS=some (seqObj "list" kA e))
  (h:∀kA s',J vs.length kA s'->IntsAre kA.toList kz->wpAny (model prog w) A (ksk_end a false vs.toArray e1 (.ref kS) kA) P E s'):
  wpAny (model prog w) A (ksk_rest a f false vs.toArray e1 (.ref kS)) P E s:=by
 unfold ksk_rest;refine wpAny_bind (wpAny_rule ?_)
 first
  |rw [List.forIn_toArray]
  |(rw [<-Array.forIn_toList];simp only [List.toList_toArray])
  |rw [<-Array.forIn_toList]
 refine wpAny_bind (ksk_fold (λi s'=>∃kA,J i kA s'/\IntsAre kA.toList (kz.take i)) vs 0 s ⟨#[],j0,by simpa using IntsAre.nil⟩ ?step ?done)
 case step=>
  rintro j x s' hx ⟨kA,hJ,hk⟩
  simp only [Nat.zero_add] at hk hJ⊢;have hj:j < vs.length:=(List.getElem?_eq_some_iff.mp hx).1;obtain⟨k,hkj⟩:∃k,kz[j]? =some k:=⟨_,List.getElem?_eq_getElem (by omega)⟩;have hz:kA.size<=vs.length:=by
   have h1:=hk.length;rw [Array.length_toList,List.length_take] at h1;omega
  refine wpAny_bind (wpAny_attempt (wpAny_mono (turn j x k kA s' hx hkj hJ) (λv s'' he=> ?_) λ_ _ hF=>hF.elim));obtain⟨t2,e2,rfl,hat,hJ2⟩:=he
  try dsimp only
  have ek:kz.take (j + 1)=kz.take j ++ [k]:=by rw [List.take_add_one,hkj];simp
  have ea:(kA.push (Value.int k t2)).toList=kA.toList ++ [Value.int k t2]:=by simp
  refine wpAny_bind (listUpdate_at hat rfl ?_ (by rw [sizeLine_eq];omega) (Nat.le_trans (Nat.le_of_eq (Array.size_push ..)) (by rw [sizeLine_eq];omega)));exact wpAny_pure ⟨rfl,kA.push (.int k t2),hJ2,by rw [ea,ek];exact ksk_snoc hk⟩
 case done=>
  rintro s' ⟨kA,hJ,hk⟩
  rw [Nat.zero_add] at hJ;have hk':IntsAre kA.toList kz:=by
   have e3:kz.take (0 + vs.length)=kz:=List.take_of_length_le (by omega);rw [e3] at hk;exact hk
  obtain⟨e,hat⟩:=at_ _ _ _ hJ
  try dsimp only
  refine wpAny_bind (listItems_at hat rfl ?_);exact h kA s' hJ hk'
end
end PySem.W
namespace L3
open PySem PySem.Spec PyProof.Rows L2
variable{K:Frag}{fd:FuncData}{mg:Str->Option Value}{us:List Value}{base:Heap}{H:Hp}{X:Cx}{pos:Pos}{v:V}
def v_8(F:List D->R W):List D->R (List (Int×D))
 | []=> .ok []
 |d::ds=>(F [d]).bind λw=>match w.d with
  | .int n=>(v_8 F ds).bind λr=> .ok ((n,d)::r)
  |_=> .no
def Ff(p:Int×D):List (Int×D)->List (Int×D)
 | []=> [p]
 |q::r=>if p.1<=q.1 then p::q::r else q::Ff p r
def u_5:List (Int×D)->List (Int×D)
 | []=> []
 |p::r=>Ff p (u_5 r)
def as_3(F:List D->R W)(ds:List D):R W:=match v_8 F ds with
 | .ok ps=>if ps.length < 64/\(ps.map (·.1)).Nodup then .ok (.ow (.lst ((u_5 ps).map (·.2)))) else .no
 |_=> .no
def as_4(F:List D->R W)(f:FE):FE:=λ δ=>(f δ).bind λw=>match w.d with
 | .dic kds=>as_3 F (kds.map λp=>kD p.1)
 |_=> .no
section
variable{X:Cx}{zd:List (Addr×Obj)}{σ:Sg}{H:Hp}{s:Shared}
theorem dc_0{A:Around}{F:List D->R W}{k:Nat}{f:Addr}{ps:List Str}{u:Value}{d:D}{n:Int}{w:W}(ok:FnX X.prog X.w X.K X.mg X.base true k f fd ps (Ca X.K 1 F))(hb:Binds X.K fd ps [])(I:Inv X zd σ H s)(hA:A.frames=X.A.frames)(hr:RoomC true k A)
  (rv:RelV v u) (hv:∀G,Has X.K G v d) (e:F [d]=.ok w) (ew:w.d=.int n):wpAny (model X.prog X.w) A (call (.ref f) [u]) (λz s'=>∃t H',z=.int n t/\Same H H'/\Inv X zd σ H' s') (λ_ _=>False) s:=by
 have e0:Env0 X.prog X.w X.K X.mg X.base A X.stack s H:=⟨hA.trans I.ok.frames,I.ok.mod,I.bs,Nat.le_trans I.ok.bsz I.sz,I.stack,I.stkFree,I.hok,I.bare⟩;have sp:Ca X.K 1 F [v] H (λv' H'=>v'=.int n/\Same H H') λ_ _ _=>False:=⟨rfl,λ_=>none,[d],(λ_ _ z=>nomatch z),.cons (hv _) .nil,by
  rw [e];refine WP.intro λv' G' H' st r=> ?_;rw [ew] at r;cases r;exact⟨rfl,st.hh⟩⟩
 have hl:([u]:List Value).length=ps.length:=by
  have:=ok.len _ _ _ _ sp;simpa using this
 have hb':=hb s [u] I.kIn (by rw [List.append_nil];exact hl);rw [List.append_nil] at hb';refine wpAny_call (codeAny_mono (ok.run A X.stack s H ⟨[u],[]⟩ [u] [v] _ _ hr e0 hb' (.cons rv .nil) sp) λr s' hq=> ?_);cases r with
 |error e=>
  obtain⟨_,_,_,_,_,_,_,_,_,_,_,_,_,_,_,z⟩:=hq;exact z
 |ok fl=>
  cases fl with
  |ret z=>
   obtain⟨v',H',I',rv',rfl,sm⟩:=I.after hq;obtain⟨t,rfl⟩:=rv';exact⟨t,H',rfl,sm,I'⟩
  |next=>exact False.elim hq
  |brk=>exact False.elim hq
  |cont=>exact False.elim hq
end
theorem dn_0{h:Heap}{a:Addr}{m m':Str->Option Value}(x:h.Ns a m)(y:h.Ns a m'):m=m':=by
 obtain⟨o,es,ep,ho,hd,_,e⟩:=x;obtain⟨o',es',ep',ho',hd',_,e'⟩:=y;rw [ho] at ho';cases ho';rw [hd] at hd';cases hd'
 funext z
 rw [<-e z,<-e' z]
section
variable{X:Cx}{zd:List (Addr×Obj)}{σ:Sg}{H:Hp}{s:Shared}
def as_5(h:Heap)(L b c:Addr):List (Addr×Obj):=(List.range h.objs.size).filterMap λi=>if i=L\/i=b\/i=c then none else(h.get? i).map λo=>(i,o)
theorem ch_2{h:Heap}{L b c i:Addr}{o:Obj}(e:h.get? i=some o)(n:¬(i=L\/i=b\/i=c)):(i,o)∈as_5 h L b c:=by
 unfold as_5;refine List.mem_filterMap.mpr ⟨i,List.mem_range.mpr (Heap.lt_size e), ?_⟩;rw [if_neg n,e];rfl
theorem aa_6{h:Heap}{L b c:Addr}{p:Addr×Obj}(e:p∈as_5 h L b c):h.get? p.1=some p.2/\p.1≠L/\p.1≠b/\p.1≠c:=by
 unfold as_5 at e;obtain⟨i,_,q⟩:=List.mem_filterMap.mp e
 split at q
 ·cases q
 ·rename_i n;obtain⟨o,eo,rfl⟩:=Option.map_eq_some_iff.mp q;exact⟨eo,λz=>n (.inl z),λz=>n (.inr (.inl z)),λz=>n (.inr (.inr z))⟩
theorem cq_6{A:Around}{E:Value->Shared->Prop}{P:PySem.Fin->Shared->Prop}{a kS:Addr}{keys:Array Value}{e e1:Nat}{vs:List Value}{xs:List V}{kz:List Int}(I:Inv X ((kS,seqObj "list" keys e)::(a,seqObj "list" #[] e1)::zd) σ H s)(hka:kS≠a)(z1:X.s₀.heap.objs.size<=kS)(z2:X.s₀.heap.objs.size<=a)(np:∀p∈X.pn ++ zd,p.1≠kS/\p.1≠a)
  (hk:IntsAre keys.toList kz) (zk:kz.length=vs.length) (h64:vs.length < 64) (hv:Vals xs vs)
  (h:∀(s':Shared) (ps:List (Int×Value)) (us:List V),ps.Perm (kz.zip vs)->ps.Pairwise (λp q=>p.1<=q.1)->Vals us (ps.map Prod.snd)->us.length=vs.length->(∀H',H'=upd H a (.lst us)->Inv X zd σ H' s')->P (.done (.ret .none)) s'):
  wpAny (model X.prog X.w) A (PyProof.Rows.ksk_end a false vs.toArray e1 (.ref kS) keys) P E s:=by
 have pk:=I.pin (kS,seqObj "list" keys e) (List.mem_append_right _ (.head _));have pa:=I.pin (a,seqObj "list" #[] e1) (List.mem_append_right _ (.tail _ (.head _)));obtain⟨m,hm,_⟩:=id I.loc;have I0:Inv X zd σ H s:=I.pins_of λp hp=>I.pin p (List.mem_append_right _ (.tail _ (.tail _ hp)));refine PyProof.Rows.ksk_end_ (e:=e) (h₀:={objs:= #[]}) (L:=X.env.locals) (m:=m) (news:=as_5 s.heap X.env.locals kS a) ⟨hm,λb o z=>by simp [Heap.get?] at z,Nat.zero_le _⟩ (λp hp=> ?_) hka (λp hp=>(aa_6 hp).2.2.1) (λp hp=>(aa_6 hp).2.2.2) hk zk h64 λh' tk out c F' N' ko=> ?_
 ·rcases List.mem_append.mp hp with hp|hp
  ·exact⟨(aa_6 hp).1,(aa_6 hp).2.1,by simp [Heap.get?]⟩
  ·rcases List.mem_cons.mp hp with rfl|hp
   ·exact⟨pk.1,pk.2.2.1,by simp [Heap.get?]⟩
   ·rw [List.mem_singleton.mp hp];exact⟨pa.1,pa.2.2.1,by simp [Heap.get?]⟩
 ·obtain⟨ps,pm,eo,srt⟩:=ko;have hat:h'.get? a=some (seqObj "list" out c):=(N' _ (.head _)).1;have kp:∀b o,b≠X.env.locals->b≠kS->b≠a->s.heap.get? b=some o->h'.get? b=some o:=λb o n1 n2 n3 e=>(N' (b,o) (.tail _ (ch_2 e (by rintro (z|z|z) <;> contradiction)))).1;have hlz:ps.length=vs.length:=by rw [pm.length_eq,List.length_zip,zk,Nat.min_self]
  obtain⟨us,hu⟩:∃us,Vals us (ps.map Prod.snd):=by
   have all:∀(l:List (Int×Value)),(∀p∈l,∃x,RelV x p.2)->∃us,Vals us (l.map Prod.snd):=by
    intro l
    induction l with
    |nil=>intro _;exact⟨[],.nil⟩
    |cons p l ih=>
     intro hl;obtain⟨x,hx⟩:=hl p (.head _);obtain⟨us,hus⟩:=ih λq hq=>hl q (.tail _ hq);exact⟨x::us,.cons hx hus⟩
   refine all ps λp hp=> ?_;have hz:=List.of_mem_zip (pm.mem_iff.mp hp);obtain⟨i,hi,ei⟩:=List.getElem_of_mem hz.2;obtain⟨x,_,r⟩:∃x,xs[i]? =some x/\RelV x p.2:=by
    have hix:i < xs.length:=by rw [hv.length];exact hi
    obtain⟨u,e1,e2⟩:=hv.get (List.getElem?_eq_getElem hix);rw [List.getElem?_eq_getElem hi,ei] at e1;cases e1;exact⟨_,List.getElem?_eq_getElem hix,e2⟩
   exact⟨x,r⟩
  have hul:us.length=vs.length:=by rw [hu.length,List.length_map];exact hlz
  refine h _ ps us pm (srt.imp λ{p q} z=>by simpa using z) hu hul λH' eH=> ?_;subst eH;have nH:∀b u,H b=some u->b≠kS/\b≠a/\b≠X.env.locals:=λb u e=>⟨(λz=>by rw [z,pk.2.1] at e;cases e),(λz=>by rw [z,pa.2.1] at e;cases e),(λz=>by rw [z,I.free] at e;cases e)⟩;have upH:∀b u,H b=some u->upd H a (.lst us) b=some u:=λb u e=>by rw [An (nH b u e).2.1];exact e
  refine I0.step (g':=s.gens) (d':=s.drawn) (ch:=[kS,a]) (λb hb=> ?_) (λb o n1 _ n3 e _=>kp b o n1 (λz=>n3 (by simp [z])) (λz=>n3 (by simp [z])) e) (λb o n1 _ n3 e _=>⟨o.slots,kp b o n1 (λz=>n3 (by simp [z])) (λz=>n3 (by simp [z])) e⟩) (λb o n3 _ n=>by rw [An λz=>n3 (by simp [z])];exact n)
   (λb o n3 e=> ?_) (λb xs e=>upH b _ e) (λb o u e=>upH b _ e) (λb ps e=>⟨#[],by rw [upH b _ e];simp⟩) (λm' hm'=>by rw [<-dn_0 hm hm'];exact F'.ns) (λb u e=> ?_) I.bare
  ·have hb':b=kS\/b=a:=by simpa using hb
   have cl:∀{q:Addr×Obj},q∈((kS,seqObj "list" keys e)::(a,seqObj "list" #[] e1)::zd)->∀x c,X.env.cells.lookup x=some c->c≠q.1:=λ{q} hq x c hc z=>by
    obtain⟨v,o,ho,hd⟩:=I.cell x c hc;have:=I.pin q (List.mem_append_right _ hq);rw [z,this.1] at ho;cases ho;exact this.2.2.2.2 v hd
   rcases hb' with rfl|rfl
   ·exact⟨.inr z1,pk.2.2.1,cl (.head _),λp hp=>(np p hp).1⟩
   ·exact⟨.inr z2,pa.2.2.1,cl (.tail _ (.head _)),λp hp=>(np p hp).2⟩
  ·by_cases z:b=X.env.locals
   ·subst z;obtain⟨o',_,_,ho',_⟩:=F'.ns;exact⟨o',ho'⟩
   ·exact⟨o,kp b o z (λz=>n3 (by simp [z])) (λz=>n3 (by simp [z])) e⟩
  ·by_cases z:b=a
   ·subst z;rw [Ba] at e;cases e;exact⟨by rw [hul,sizeLine_eq];omega,ps.map Prod.snd,c,hu,by rw [<-eo];simpa using hat⟩
   ·rw [An z] at e;obtain⟨n1,n2,n3⟩:=nH b u e;refine(I.hok b u e).stay (λb' o' hc q=> ?_) (λb' q=>upH b' _ q) λb' xs q=>upH b' _ q;rcases hc with rfl|hc
    ·exact kp _ _ n3 n1 n2 q
    ·obtain⟨k1,k2,k3⟩:=nH b' _ hc;exact kp _ _ k3 k1 k2 q
end
section
variable{X:Cx}{zd:List (Addr×Obj)}{σ:Sg}{H:Hp}{s:Shared}
theorem ch_3{A:Around}{E:Value->Shared->Prop}{P:PySem.Fin->Shared->Prop}{a:Addr}{n k:Nat}{vs:List Value}{xs:List V}{ds:List D}{kz:List Int}{F:List D->R W}{f:Addr}{ps:List Str}(I:Inv X zd σ H s)(ho:s.heap.get? a=some (seqObj "list" vs.toArray n))(ha0:H a=none)(haz:X.s₀.heap.objs.size<=a)(haL:a≠X.env.locals)
  (hac:∀x c,X.env.cells.lookup x=some c->c≠a) (hap:∀p∈X.pn ++ zd,p.1≠a) (haf:a∉X.fs) (hv:Vals xs vs) (hx:∀(i:Nat) v d,xs[i]? =some v->ds[i]? =some d->∀G,Has X.K G v d) (hdl:ds.length=vs.length)
  (hkz:∀(i:Nat) d k,ds[i]? =some d->kz[i]? =some k->∃w,F [d]=.ok w/\w.d=.int k) (zk:kz.length=vs.length) (h64:vs.length < 64)
  (ok:FnX X.prog X.w X.K X.mg X.base true k f fd ps (Ca X.K 1 F)) (hb:Binds X.K fd ps []) (hA:A.frames=X.A.frames) (hr:RoomC true k A)
  (h:∀(s':Shared) (H':Hp) (ps:List (Int×Value)) (us:List V),Same H H'->H' a=none->ps.Perm (kz.zip vs)->ps.Pairwise (λp q=>p.1<=q.1)->Vals us (ps.map Prod.snd)->us.length=vs.length->Inv X zd σ (upd H' a (.lst us)) s'->P (.done (.ret .none)) s'):
  wpAny (model X.prog X.w) A (PyProof.Rows.ksk_tree a (.ref f) false) P E s:=by
 have ha:a < s.heap.objs.size:=Heap.lt_size ho;have s1:=Heap.SameBut.update s.heap a (Obj.mapSeq λ_=>(#[]:Array Value));obtain⟨e1,ho1⟩:∃e1,(s.heap.update a (Obj.mapSeq λ_=>(#[]:Array Value))).get? a=some (seqObj "list" #[] e1):=⟨_,get?_update_seq ho λ_=> #[]⟩;have hkS:((s.heap.update a (Obj.mapSeq λ_=>(#[]:Array Value))).push (seqObj "tuple" vs.toArray 0)).objs.size=s.heap.objs.size + 1:=by rw [size_push',Heap.size_update]
 generalize hq:((s.heap.update a (Obj.mapSeq λ_=>(#[]:Array Value))).push (seqObj "tuple" vs.toArray 0)).objs.size=kS at hkS;have hka:kS≠a:=by rw [hkS];exact Nat.ne_of_gt (Nat.lt_succ_of_lt ha)
 have z1:X.s₀.heap.objs.size<=kS:=by rw [hkS];exact Nat.le_succ_of_le I.sz
 have npk:∀p∈X.pn ++ zd,p.1≠kS:=λp hp z=>by
  have:=Heap.lt_size (I.pin p hp).1;rw [z,hkS] at this;exact absurd this (Nat.not_lt.mpr (Nat.le_succ _))
 have I1:Inv X zd σ H {s with heap:=s.heap.update a (Obj.mapSeq λ_=>(#[]:Array Value))}:=I.turned (t':=s.toks) (λb o hb e=>(s1.2 b hb).trans e) ha0 haL (.inr haz) hac hap;have I2:Inv X zd σ H {s with heap:=((s.heap.update a (Obj.mapSeq λ_=>(#[]:Array Value))).push (seqObj "tuple" vs.toArray 0)).push (seqObj "list" #[] 0)}:=I1.kept (t':=s.toks) λb o e=>Heap.get?_push_of_some _ (Heap.get?_push_of_some _ e);have hk0:H kS=none:=I.hok.fresh (by rw [hkS];exact Nat.le_succ _);have hkL:kS≠X.env.locals:=λz=>by have:=I.lt;rw [<-z,hkS] at this;exact absurd this (Nat.not_lt.mpr (Nat.le_succ _))
 have hkf:kS∉X.fs:=I.nofs (by rw [hkS];exact Nat.le_succ _);have nc:∀(l:Array Value) (e:Nat) v,(seqObj "list" l e).data≠ .cell v:=λl e v z=>by cases z
 let J:Nat->Array Value->Shared->Prop:=λ_ kA s'=>∃H' e,Same H H'/\Inv X ((kS,seqObj "list" kA e)::(a,seqObj "list" #[] e1)::zd) σ H' s'
 have az:∀{kA:Array Value} {e:Nat} {H':Hp} {s':Shared},Inv X zd σ H' s'->s'.heap.get? kS=some (seqObj "list" kA e)->s'.heap.get? a=some (seqObj "list" #[] e1)->H' kS=none->H' a=none->Inv X ((kS,seqObj "list" kA e)::(a,seqObj "list" #[] e1)::zd) σ H' s':=λ{kA e H' s'} J0 g1 g2 n1 n2=>by
  refine J0.pins_of λp hp=> ?_;rcases List.mem_cons.mp hp with rfl|hp
  ·exact⟨g1,n1,hkL,hkf,nc _ _⟩
  ·rcases List.mem_cons.mp hp with rfl|hp
   ·exact⟨g2,n2,haL,haf,nc _ _⟩
   ·exact J0.pin p (List.mem_append_right _ hp)
 unfold PyProof.Rows.ksk_tree;refine wpAny_bind (listItems_at ho rfl ?_);refine wpAny_bind (listUpdate_at ho rfl ?_ (by rw [List.size_toArray,sizeLine_eq];omega) (Nat.zero_le _));refine wpAny_bind (seqEpoch_at ho1 rfl ?_);refine wpAny_bind (wpAny_newTuple ?_ (by show vs.length<=_;rw [sizeLine_eq];omega));refine wpAny_bind (wpAny_newList ?_ (Nat.zero_le _));refine wpAny_holding ?_;show wpAny _ A (PyProof.Rows.ksk_rest a (.ref f) false vs.toArray e1 (.ref ((s.heap.update a (Obj.mapSeq λ_=>(#[]:Array Value))).push (seqObj "tuple" vs.toArray 0)).objs.size)) P E _;rw [hq];refine PySem.W.ksk_restJ (kz:=kz) J ?_ zk h64 (λi v kk kA s' ev ek hJ=> ?_) (λi kA s' hJ=> ?_) λkA s' hJ hk=> ?_
 ·refine⟨H,0,Same.refl _,az I2 ?_ (Heap.get?_push_of_some _ (Heap.get?_push_of_some _ ho1)) hk0 ha0⟩;rw [<-hq];exact Heap.get?_push_size _ rfl
 ·obtain⟨H1,e,sm,J1⟩:=hJ;have hi:i < vs.length:=(List.getElem?_eq_some_iff.mp ev).1;have hix:i < xs.length:=by rw [hv.length];exact hi
  obtain⟨u,eu,ru⟩:=hv.get (List.getElem?_eq_getElem hix);rw [ev] at eu;cases eu;have hid:i < ds.length:=by rw [hdl];exact hi
  obtain⟨w,ew,en⟩:=hkz i _ kk (List.getElem?_eq_getElem hid) ek;refine wpAny_mono (dc_0 ok hb J1 hA hr ru (hx i _ _ (List.getElem?_eq_getElem hix) (List.getElem?_eq_getElem hid)) ew en) (λz s2 hz=> ?_) λ_ _ z=>z;obtain⟨t,H2,rfl,sm2,J2⟩:=hz;have pk:=J2.pin (kS,seqObj "list" kA e) (List.mem_append_right _ (.head _));have pa:=J2.pin (a,seqObj "list" #[] e1) (List.mem_append_right _ (.tail _ (.head _)));refine⟨t,e,rfl,pk.1, ?_⟩;have J3:Inv X zd σ H2 s2:=J2.pins_of λp hp=>J2.pin p (List.mem_append_right _ (.tail _ (.tail _ hp)));have sb:=Heap.SameBut.update s2.heap kS (Obj.mapSeq (·.push (.int kk t)));have cl:∀x c,X.env.cells.lookup x=some c->c≠kS:=λx c hc z=>by
   obtain⟨v,o,ho,hd⟩:=J2.cell x c hc;rw [z,pk.1] at ho;cases ho;exact pk.2.2.2.2 v hd
  have J4:Inv X zd σ H2 {s2 with heap:=s2.heap.update kS (Obj.mapSeq (·.push (.int kk t)))}:=J3.turned (t':=s2.toks) (λb o hb e=>(sb.2 b hb).trans e) pk.2.1 hkL (.inr z1) cl npk;exact⟨H2,_,sm.trans sm2,az J4 (get?_update_seq pk.1 (·.push (.int kk t))) ((sb.2 a hka.symm).trans pa.1) pk.2.1 pa.2.1⟩
 ·obtain⟨H1,e,sm,J1⟩:=hJ;exact⟨e,(J1.pin (kS,seqObj "list" kA e) (List.mem_append_right _ (.head _))).1⟩
 ·obtain⟨H1,e,sm,J1⟩:=hJ;have pa:=J1.pin (a,seqObj "list" #[] e1) (List.mem_append_right _ (.tail _ (.head _)));exact cq_6 J1 hka z1 haz (λp hp=>⟨npk p hp,hap p hp⟩) hk zk h64 hv λs3 ps us pm srt hu hul J=>h s3 H1 ps us sm pa.2.1 pm srt hu hul (J _ rfl)
end
theorem aj_0(p:Int×D):∀l:List (Int×D),(Ff p l).Perm (p::l)
 | []=> .refl _
 |q::r=>by
  unfold Ff
  split
  ·exact .refl _
  ·exact(List.Perm.cons q (aj_0 p r)).trans (List.Perm.swap p q r)
theorem v_9:∀l:List (Int×D),(u_5 l).Perm l
 | []=> .refl _
 |p::r=>(aj_0 p (u_5 r)).trans (.cons p (v_9 r))
theorem ak_9(p:Int×D):∀{l:List (Int×D)},l.Pairwise (λa b=>a.1<=b.1)->(Ff p l).Pairwise (λa b=>a.1<=b.1)
 | [],_=>by unfold Ff;simp
 |q::r,h=>by
  rw [List.pairwise_cons] at h;unfold Ff
  split
  ·rename_i hl;refine List.pairwise_cons.mpr ⟨λz hz=> ?_,List.pairwise_cons.mpr h⟩;rcases List.mem_cons.mp hz with rfl|hz
   ·exact hl
   ·exact Int.le_trans hl (h.1 z hz)
  ·rename_i hl;refine List.pairwise_cons.mpr ⟨λz hz=> ?_,ak_9 p h.2⟩;rcases List.mem_cons.mp ((aj_0 p r).mem_iff.mp hz) with rfl|hz
   ·omega
   ·exact h.1 z hz
theorem w_0:∀l:List (Int×D),(u_5 l).Pairwise (λa b=>a.1<=b.1)
 | []=> .nil
 |p::r=>ak_9 p (w_0 r)
theorem as_6{α β:Type}{R:α->β->Prop}{a:α}:∀{A:List α} {B:List β},Paired R A B->a∈A->∃l1 l2 m1 m2 b,A=l1 ++ a::l2/\B=m1 ++ b::m2/\R a b/\Paired R (l1 ++ l2) (m1 ++ m2)
 |_,_,.cons (a:=x) (b:=y) (l₁:=A) (l₂:=B) r t,h=>by
  by_cases e:a=x
  ·subst e;exact⟨[],A,[],B,y,rfl,rfl,r,t⟩
  ·rcases List.mem_cons.mp h with z|h
   ·exact absurd z e
   ·obtain⟨l1,l2,m1,m2,b,rfl,rfl,rb,pr⟩:=as_6 t h;exact⟨x::l1,l2,y::m1,m2,b,rfl,rfl,rb,.cons r pr⟩
theorem y_5{α β:Type}{R:Int×α->Int×β->Prop}(hR:∀p q,R p q->p.1=q.1):∀{A:List (Int×α)} {A0:List (Int×α)} {B0 B:List (Int×β)},Paired R A0 B0->A.Perm A0->B.Perm B0->(B0.map (·.1)).Nodup->A.Pairwise (λp q=>p.1<=q.1)->B.Pairwise (λp q=>p.1<=q.1)->Paired R A B
 | [],A0,B0,B,r,pa,pb,_,_,_=>by
  have:A0= []:=pa.symm.eq_nil;subst this;cases r;have:B= []:=pb.eq_nil;subst this;exact .nil
 |a::A,A0,B0,B,r,pa,pb,nd,sa,sb=>by
  obtain⟨l1,l2,m1,m2,b,rfl,rfl,rb,pr⟩:=as_6 r (pa.mem_iff.mp (.head _));have pa':A.Perm (l1 ++ l2):=(List.perm_cons a).mp (pa.trans List.perm_middle);have bB:b∈B:=pb.mem_iff.mpr (by simp);rw [List.pairwise_cons] at sa;cases B with
  |nil=>cases bB
  |cons c B=>
   rw [List.pairwise_cons] at sb;have dk:∀z∈m1 ++ m2,a.1<=z.1:=λz hz=>by
    have:∀{A:List (Int×α)} {B:List (Int×β)},Paired R A B->∀z∈B,∃y∈A,y.1=z.1:=λ{A B} p=>by
     induction p with
     |nil=>intro z hz;cases hz
     |cons rr _ ih=>
      intro z hz;rcases List.mem_cons.mp hz with rfl|hz
      ·exact⟨_,.head _,hR _ _ rr⟩
      ·obtain⟨y,hy,e⟩:=ih z hz;exact⟨y,.tail _ hy,e⟩
    obtain⟨y,hy,e⟩:=this pr z hz;rw [<-e];exact sa.1 y (pa'.mem_iff.mpr hy)
   have eb:a.1=b.1:=hR _ _ rb;have cb:c=b:=by
    have hc:c∈m1 ++ b::m2:=pb.mem_iff.mp (.head _);have hc':c=b\/c∈m1 ++ m2:=by
     rcases List.mem_append.mp hc with h|h
     ·exact .inr (List.mem_append_left _ h)
     ·rcases List.mem_cons.mp h with h|h
      ·exact .inl h
      ·exact .inr (List.mem_append_right _ h)
    rcases hc' with h|h
    ·exact h
    ·exfalso;have h1:=dk c h;have h2:c.1<=b.1:=by
      rcases List.mem_cons.mp bB with z|z
      ·rw [z];exact Int.le_refl _
      ·exact sb.1 b z
     have h3:c.1=b.1:=by omega
     have nd':((b::(m1 ++ m2)).map (·.1)).Nodup:=(List.Perm.map _ (List.perm_middle (a:=b) (l₁:=m1) (l₂:=m2))).nodup_iff.mp nd;rw [List.map_cons,List.nodup_cons] at nd';exact nd'.1 (by rw [<-h3];exact List.mem_map_of_mem h)
   subst cb;have pb':B.Perm (m1 ++ m2):=(List.perm_cons c).mp (pb.trans List.perm_middle);have nd':((m1 ++ m2).map (·.1)).Nodup:=by
    have nd':((c::(m1 ++ m2)).map (·.1)).Nodup:=(List.Perm.map _ (List.perm_middle (a:=c) (l₁:=m1) (l₂:=m2))).nodup_iff.mp nd;rw [List.map_cons,List.nodup_cons] at nd';exact nd'.2
   exact .cons rb (y_5 hR pr pa' pb' nd' sa.2 sb.2)
theorem ba_7{F:List D->R W}:∀{ds:List D} {ps:List (Int×D)},v_8 F ds=.ok ps->Paired (λd (p:Int×D)=>p.2=d/\∃w,F [d]=.ok w/\w.d=.int p.1) ds ps
 | [],_,e=>by cases e;exact .nil
 |d::ds,ps,e=>by
  unfold v_8 at e;cases ef:F [d] with
  |ok w=>
   rw [ef] at e;simp only [R.bind_ok] at e;cases ew:w.d with
   |int n=>
    rw [ew] at e;simp only at e;cases er:v_8 F ds with
    |ok r=>rw [er] at e;cases e;exact .cons ⟨rfl,w,ef,ew⟩ (ba_7 er)
    |ex x=>rw [er] at e;cases e
    |no=>rw [er] at e;cases e
   |_=>rw [ew] at e;cases e
  |ex x=>rw [ef] at e;cases e
  |no=>rw [ef] at e;cases e
theorem cq_7{k:Af}{u:Value}(r:RelV v u)(q:RelV (kV k) u):v=kV k:=by
 cases k with
 |inl i=>
  obtain⟨t,rfl⟩:=q;cases v with
  |int j=>obtain⟨t',e⟩:=r;cases e;rfl
  |str x=>obtain⟨t',e⟩:=r;cases e
  |byt x=>obtain⟨t',e⟩:=r;cases e
  |flt x=>obtain⟨t',e⟩:=r;cases e
  |_=>cases r
 |inr x=>
  obtain⟨t,rfl⟩:=q;cases v with
  |str y=>obtain⟨t',e⟩:=r;cases e;rfl
  |int j=>obtain⟨t',e⟩:=r;cases e
  |byt x=>obtain⟨t',e⟩:=r;cases e
  |flt x=>obtain⟨t',e⟩:=r;cases e
  |_=>cases r
abbrev RelK(p:Int×Value)(q:Int×D):Prop:=p.1=q.1/\∃k0,q.2=kD k0/\RelV (kV k0) p.2
theorem zipR{F:List D->R W}:∀{ks:List Af} {vs:List Value} {ps:List (Int×D)},Vals (ks.map kV) vs->Paired (λd (p:Int×D)=>p.2=d/\∃w,F [d]=.ok w/\w.d=.int p.1) (ks.map kD) ps->Paired RelK ((ps.map (·.1)).zip vs) ps
 | [],_,_,r,q=>by cases r;cases q;exact .nil
 |k::ks,_,_,r,q=>by
  rw [List.map_cons] at r q;cases r with
  |cons h t=>
   cases q with
   |cons h2 t2=>exact .cons ⟨rfl,k,h2.1,h⟩ (zipR t t2)
theorem outR{G:Hp}:∀{ps:List (Int×Value)} {qs:List (Int×D)} {us:List V},Paired RelK ps qs->Vals us (ps.map Prod.snd)->HasL K G us (qs.map (·.2))
 | [],_,_,r,h=>by cases r;cases h;exact .nil
 |p::ps,_,_,r,h=>by
  rw [List.map_cons] at h;cases r with
  |cons r t=>
   cases h with
   |cons hv ht=>
    obtain⟨_,k0,e,rk⟩:=r;rw [List.map_cons,e];exact .cons (by rw [cq_7 hv rk];exact ar_7 k0) (outR t ht)
theorem Paired.getL{α β:Type}{R:α->β->Prop}:∀{A:List α} {B:List β} {i:Nat} {a:α} {b:β},Paired R A B->A[i]? =some a->B[i]? =some b->R a b
 |_,_,_,_,_,.nil,e,_=>by simp at e
 |_,_,0,_,_,.cons r _,e,e'=>by
  simp at e e';subst e e';exact r
 |_,_,i + 1,_,_,.cons _ t,e,e'=>Paired.getL (i:=i) t (by simpa using e) (by simpa using e')
section
variable{X:Cx}{EX:Ay}{pos:Pos}
theorem ch_4{zd:List (Addr×Obj)}{σ:Sg}{G H:Hp}{s:Shared}{Q:VK}{a f:Addr}{k k':Nat}{ps:List Str}{F:List D->R W}{kvs:List (Af×V)}{kds:List (Af×D)}(hc:X.calm=true)(I:Inv X zd σ H s)(g:Same G H)(rd:Rd G a (.dK kvs))(hk:kvs.map (·.1)=kds.map (·.1))
  (ok:FnX X.prog X.w X.K X.mg X.base true k f fd ps (Ca X.K 1 F)) (hb:Binds X.K fd ps []) (hr:RoomC true k' X.A) (hkk:k + 1<=k') (o:Out X.K EX0 G H (as_3 F (kds.map λp=>kD p.1)) Q):
  wpAny (model X.prog X.w) X.A (call (.builtin "sorted") [.ref a] [(Str.ofString "key",.ref f)]) (EP X zd σ Q) X.xe s:=by
 unfold as_3 at o;cases eK:v_8 F (kds.map λp=>kD p.1) with
 |ex x=>rw [eK] at o;exact False.elim o
 |no=>rw [eK] at o;exact False.elim o
 |ok psD=>
  rw [eK] at o;simp only at o
  split at o
  ·rename_i hcond;obtain⟨h64,nd⟩:=hcond;have pK:=ba_7 eK;have hkl:kds.length=kvs.length:=by
    have:=congrArg List.length hk;rw [List.length_map,List.length_map] at this;exact this.symm
   have hpl:psD.length=kvs.length:=by
    rw [<-Paired.length pK,List.length_map];exact hkl
   have ekd:(kds.map λp=>kD p.1)=(kvs.map (·.1)).map kD:=by rw [hk,List.map_map];rfl
   obtain⟨z,lo,ws,kv,dd⟩:=q_6 I.hok (Same.rdD g rd);obtain⟨ep,da⟩:=dd.dictAt;refine call_function_entry_kw kind_sorted plain_sorted entry_sorted (ksk_s1 _ _) ?_;unfold Builtin.«sorted»;refine wpAny_bind (m:=checkCount "sorted" 1 1 _) (wpAny_pure ?_);refine wpAny_bind (PySem.W.collect_kdl (A:=X.A.in1) (kdl_dict lo) (I.ok.hd hc) da (by rw [<-kv.length];exact z) λh1 tk1 zp kk le it=> ?_);have rv':Vals ((kvs.map (·.1)).map kV) zp.toList:=ai_5 kv (by rw [Array.length_toList];exact it.1) λj v e=>it.2 j v (by rw [<-Array.getElem?_toList];exact e);have hal:zp.toList.length=kvs.length:=by rw [<-rv'.length,List.length_map,List.length_map]
   refine wpAny_bind (wpAny_newList ?_ (by rw [hal];exact z));have new:(h1.push (seqObj "list" zp.toList.toArray 0)).get? h1.objs.size=some (seqObj "list" zp.toList.toArray 0):=Heap.get?_push_size _ rfl;have I0:Inv X zd σ H {s with heap:=h1,toks:=tk1}:=I.kept (t':=tk1) kk;have I1:Inv X zd σ H {s with heap:=h1.push (seqObj "list" zp.toList.toArray 0),toks:=tk1}:=I0.kept (t':=tk1) λb u e=>Heap.get?_push_of_some _ e;have fr:H h1.objs.size=none:=I.hok.fresh le;refine wpAny_bind (wpAny_holding (wpAny_call_entry_kw slot_list_sort ⟨_,new,rfl⟩ entry_list_sort ?body (ksk_l1 _ _)))
   case body=>
    show wpAny (model X.prog X.w) X.A.in1.in1 (Builtin.«list.sort» ⟨[.ref h1.objs.size],[(Str.ofString "key",.ref f)]⟩) _ _ _;rw [ksk_t1];have hr':RoomC true k X.A.in1.in1:=⟨hr.hd,by have:=hr.dp;show X.A.depth + 3 * k + 5 < _;omega,by have:=hr.un;show X.A.units + 1 + 1 + 16 * k + 200 < _;omega⟩;refine ch_3 (kz:=psD.map (·.1)) (ds:=kds.map λp=>kD p.1) (F:=F) I1 new fr (Nat.le_trans I.sz le) (λz=> ?_) (λx c e z=> ?_) (λp hp z=> ?_) (I0.nofs (Nat.le_refl _)) rv' (λi v d e1 e2 G'=> ?_) (by rw [List.length_map,hal];exact hkl) (λi d kx e1 e2=> ?_) (by rw [List.length_map,hal];exact hpl) (by rw [hal,<-hpl];exact h64) ok hb rfl hr' λs' H' ps us sm na pm srt hu hul J=> ?_
    ·have:=I0.lt;rw [<-z] at this;exact absurd this (Nat.lt_irrefl _)
    ·obtain⟨v,hv⟩:=I0.cell x c e;have:=hv.lt;rw [z] at this;exact absurd this (Nat.lt_irrefl _)
    ·have:=Heap.lt_size (I0.pin p hp).1;rw [z] at this;exact absurd this (Nat.lt_irrefl _)
    ·rw [ekd,List.getElem?_map] at e2;rw [List.getElem?_map] at e1;cases ek:(kvs.map (·.1))[i]? with
     |none=>rw [ek] at e1;cases e1
     |some k0=>rw [ek] at e1 e2;cases e1;cases e2;exact ar_7 k0
    ·rw [List.getElem?_map] at e2;cases ep2:psD[i]? with
     |none=>rw [ep2] at e2;cases e2
     |some p=>
      rw [ep2] at e2;cases e2;exact(Paired.getL pK e1 ep2).2
    ·refine⟨_,rfl,wpAny_pure ⟨_,rfl,.ref h1.objs.size,_,J,rfl, ?_⟩⟩;rw [ekd] at pK;have pr:=y_5 (R:=RelK) (λp q r=>r.1) (zipR rv' pK) pm (v_9 psD) nd srt (w_0 psD);refine(show WP X.K G H (.ow (.lst ((u_5 psD).map (·.2)))) Q from o) (.ref h1.objs.size) (λb=>b=h1.objs.size) G _ ⟨λb u e=> ?_,λb u e=> ?_,Same.refl _,λ_ n _=>n⟩ (λb e=> ?_) (Ow.list Ba rfl (outR pr hu))
     ·rw [An (Ef e fr)];exact sm b u e
     ·rw [An (Ef (g b u e) fr)];exact sm b u (g b u e)
     ·subst e;exact⟨fr,g.free fr,by rw [Ba];simp⟩
  ·exact False.elim o
theorem cq_8{o:Expr}{f:FE}{x:Str}{k k':Nat}{y:Str}{F:List D->R W}{p p2 p3:Pos}(hc:X.calm=true)(hr:RoomC true k' X.A)(hm:X.mg "sorted" =none)(h:FnD X.prog X.w X.K X.mg X.base true x k [y] F)(he:ED X EX o f)(hk:k + 1<=k':=by decide)(hg:Gl X "sorted" :=by rfl)(hgx:Gl X x:=by rfl)(hdb:(x ==("__debug__" :Str))=false:=by decide)
  (hs1:starEach [o] X.env=(false,eval o X.env)::starEach [] X.env:=by rfl) (hb1:backTo pos (starEach [o] X.env)=(false,eval o X.env)::backTo pos (starEach [] X.env):=by rfl) (hpl:(backTo pos (starEach [o] X.env)).any (·.1)=false:=by rfl)
  (bh:(backToKw pos (keywordEach [⟨some "key",.Name x p2,p3⟩] X.env)).all (·.1.isSome)=true:=by rfl) (hkw:(backToKw pos (keywordEach [⟨some "key",.Name x p2,p3⟩] X.env)).any (·.1.isNone)=false:=by rfl)
  (hnm:(backToKw pos (keywordEach [⟨some "key",.Name x p2,p3⟩] X.env)).filterMap (·.1)= [Str.ofString "key"]:=by rfl):
  ED X EX (.Call (.Name "sorted" p) [o] [⟨some "key",.Name x p2,p3⟩] pos) (as_4 F f):=by
 obtain⟨fa,fd,ok,hmx,kp,hb⟩:=h;intro zd s σ H Q I q;obtain⟨G,δ,g0,s0,q⟩:=q;have ta:ck_2 (tD X.K EX f) tNil σ H λvs H1=>∃(G1:Hp) (a:Addr) (kvs:List (Af×V)) (kds:List (Af×D)),vs= [.ref a]/\Same G1 H1/\Rd G1 a (.dK kvs)/\kvs.map (·.1)=kds.map (·.1)/\Out X.K (EX σ) G1 H1 (as_3 F (kds.map λp=>kD p.1)) Q:=by
  refine tD.seq g0 s0 q λw v G1 H1 _ st r o'=> ?_;revert o' r;cases w.d with
  |dic kds=>
   intro r o';cases r with
   |dic hr hk rr=>exact⟨G1,_,_,kds,rfl,st.gh,hr,hk,o'⟩
  |_=>intro _ o';exact False.elim o'
 refine wpAny_Call_Name_kw (ac_5 I hg hm PyProof.Rows.boot_sorted (callWith_kw (Aw ((i_7 he o_9 hs1) pos zd s σ H _ I ta) λus s1 ⟨vs,H1,I1,r1,G1,a,kvs,kds,ev,g1,rd,hkk,o'⟩=> ?_) hb1 hpl bh hkw));subst ev;obtain⟨u,rfl,ru⟩:=r1.one;cases ru;refine kws_cons (p_6 I1 hgx hmx (kws_nil ?_) hdb);rw [hnm];refine ch_4 hc I1 g1 rd hkk ok hb hr hk ?_;unfold as_3 at o'⊢;cases eK:v_8 F (kds.map λp=>kD p.1) with
 |ok psD=>
  rw [eK] at o';simp only at o'⊢
  split at o'
  ·rename_i hcond;rw [if_pos hcond];exact o'
  ·exact False.elim o'
 |ex x=>rw [eK] at o';exact False.elim o'
 |no=>rw [eK] at o';exact False.elim o'
end
section
variable{X:Cx}{EX:Ay}{e:Expr}{g:SE->FM}
end
def Iti(a:Addr)(ob:Obj)(kvs:List (Af×V)):It:=⟨λi H=>H a=some (.frz ob (.dK kvs))/\i < kvs.length,λi H x H'=>∃p q,H p=none/\x=.ref p/\kvs[i]? =some q/\H'=upd H p (.tup [kV q.1,q.2]),λi H=>H a=some (.frz ob (.dK kvs))/\i=kvs.length⟩
theorem ca_6{α β:Type}{R:α->β->Prop}:∀{A:List α} {B:List β} {i:Nat} {a:α},Paired R A B->A[i]? =some a->∃b,B[i]? =some b/\R a b
 |_,_,0,_,.cons h _,e=>by cases e;exact⟨_,rfl,h⟩
 |_,_,i + 1,_,.cons _ r,e=>ca_6 (i:=i) r e
 |_,_,i,_,.nil,e=>by cases i <;> cases e
theorem as_7{P:Program}{w:World}{elts:List Expr}{x1:Nat}(a it:Addr)(ob:Obj)(kvs:List (Af×V)){es:Array DictEntry}{ep:Nat}(hd:ob.data=.dict es ep):Turn P w K (.Tuple elts x1 pos) (Iti a ob kvs) [it] it (λi h=>∃ok ov,IsItemIter h it a i kvs.length ep ok ov) where
 mem:=by simp
 obj:=λi h st b hb=>by
  have e:b=it:=by simpa using hb
  subst e;obtain⟨_,_,q⟩:=st;exact⟨_,q,λv z=>by cases z⟩
 keep:=λi h h' st k=>by
  obtain⟨ok,ov,q⟩:=st;exact⟨ok,ov,k it (by simp) _ q⟩
 item:=by
  intro X hP hw hK hc i zd s σ H E I hf st hg;subst hP hw hK;obtain⟨hq,hlt⟩:=hg;obtain⟨ws,kv,da⟩:=af_1 I.hok hq hd;have f:=hf it (by simp);obtain⟨p,hp⟩:∃p,kvs[i]? =some p:=⟨_,List.getElem?_eq_getElem hlt⟩;obtain⟨⟨k',x⟩,hx,e1,rx⟩:=ca_6 kv hp;simp only at e1 rx;subst e1;obtain⟨ok,ov,st⟩:=st;rw [kv.length] at st;refine wpAny_pyNext_items_item st da hx λkey h' hk ho ht hsz kk=> ?_;refine⟨_,rfl,wpAny_letOwnedTupleGo_items ho λh'' av sb=> ?_⟩;have ne:s.heap.objs.size≠it:=λz=>absurd (Heap.lt_size st) (by rw [<-z];exact Nat.lt_irrefl _);refine⟨.ref s.heap.objs.size,upd H s.heap.objs.size (.tup [kV p.1,p.2]), ?_,rfl,⟨_,p,I.hok.fresh (Nat.le_refl _),rfl,hp,rfl⟩,⟨key,x,by rw [kv.length];exact av⟩,λb hb=> ?_⟩
  ·exact Inv.pair (e:=it) (it:=it) (tk:=s.toks) (its:=[key,x]) I f f (λb o h1 _ q=>(sb.2 b h1).trans (kk b o h1 q)) ⟨_,av⟩ ⟨_,av⟩ ((sb.2 _ ne).trans ht) (.cons (co_0 hk) (.cons rx .nil)) (by show 2<=sizeLine;decide)
  ·have e:b=it:=by simpa using hb
   subst e;rw [An (Nat.ne_of_lt (Heap.lt_size st))];exact f.1
 done:=by
  intro X hP hw hK hc i zd s σ H E I hf st hg;subst hP hw hK;obtain⟨hq,hg⟩:=hg;subst hg;obtain⟨ws,kv,da⟩:=af_1 I.hok hq hd;have f:=hf it (by simp);obtain⟨ok,ov,st⟩:=st;rw [kv.length] at st;exact wpAny_pyNext_items_end (I.ok.hd hc) st da (by simp) λh' eb=>⟨rfl,Inv.turned2 (tk:=s.toks) I f f λb o h1 _ q=>eb b o h1 q⟩
 self:=λA i s Q E st h=>by
  obtain⟨ok,ov,st⟩:=st;exact kcp_self st h
def iIm(H₀:Hp)(to:TE):TI:=λ σ H R=>to σ H λx H1=>∃a kvs,x=.ref a/\((H1 a=some (.dK kvs)/\∀ob,(∀o v,H₀ a≠some (.frz o v))->R (Iti a ob kvs) (upd H1 a (.frz ob (.dK kvs))))\/(∃ob,H1 a=some (.frz ob (.dK kvs))/\R (Iti a ob kvs) H1))
theorem bo_0{o:Expr}{to:TE}{elts:List Expr}{x1:Nat}{tp zg zf:Pos}(ho:PE X o to)(af:attributeBase o "items" X.env (eval o X.env)=eval o X.env:=by rfl)(ag:(zg.endLine ==zf.line)=true:=by rfl):PI X (.Tuple elts x1 tp) (.Call (.Attribute o "items" zg) [] [] zf) (iIm X.H₀ to):=by
 intro zd s σ H R I h;refine wpAny_Call_method0_late af ag (Aw (ho zd s σ H _ I h) λv s1 ⟨x,H1,I1,r1,a,kvs,ex,q⟩=> ?_);subst ex;obtain rfl:v=Value.ref a:=r1;have rd:Rd H1 a (.dK kvs):=q.elim (λz=> .inl z.1) λ⟨ob,z,_⟩=> .inr ⟨ob,z⟩;obtain⟨z,lo,ws,kv,od,es,ep,g1,c1,c2,c3⟩:=q_6 I1.hok rd;have da:s1.heap.DictAt (Di X.prog X.w) a ws ep:=⟨od,es,g1,c1,c2,c3⟩;have dd:s1.heap.DictOf (Di X.prog X.w) a ws:=⟨od,es,ep,g1,c1,c2,c3⟩;refine⟨"dict","dict.items",PySem.F.plainAttrs_dict,PySem.F.slot_dict_items,PySem.F.type_dict_items,dd.typeIs,dd.mapOf.noDict,Calls.callWith_builtin rfl (PySem.evalArgs_none ?_)⟩;refine call_meetsIn PySem.F.slot_dict_items dd.typeIs PySem.F.entry_dict_items (PySem.F.args_dict_items_1 _) (meets_dict_items (Di X.prog X.w) a lo) ⟨⟨ws,dd⟩, ?_⟩;refine wpAny_pyIter_items ⟨_,Heap.get?_push_size _ rfl,rfl,rfl⟩ (da.push _) ?_;have gp:∀b o,s1.heap.get? b=some o->((s1.heap.push {cls:=.type "dict_items",data:=.fields #[.ref a]}).push {cls:=.type "dict_itemiterator",data:=.fields #[.none,.bool false,.ref a,.int 0 0,.int ws.length 0,.int ep 0,.none,.none]}).get? b=some o:=λb o e=>Heap.get?_push_of_some _ (Heap.get?_push_of_some _ e);have I2:=I1.kept (t':=s1.toks) gp;have tn0:IsItemIter ((s1.heap.push {cls:=.type "dict_items",data:=.fields #[.ref a]}).push {cls:=.type "dict_itemiterator",data:=.fields #[.none,.bool false,.ref a,.int 0 0,.int ws.length 0,.int ep 0,.none,.none]}) (s1.heap.push {cls:=.type "dict_items",data:=.fields #[.ref a]}).objs.size a 0 kvs.length ep .none .none:=by
  rw [kv.length];exact Heap.get?_push_size _ rfl
 have le:s1.heap.objs.size<=(s1.heap.push {cls:=.type "dict_items",data:=.fields #[.ref a]}).objs.size:=by
  have:=Heap.lt_size (Heap.get?_push_size s1.heap (o:={cls:=.type "dict_items",data:=.fields #[.ref a]}) rfl);exact Nat.le_of_lt this
 have free:=I1.hok.fresh le;have fr:∀H2:Hp,H2 (s1.heap.push {cls:=.type "dict_items",data:=.fields #[.ref a]}).objs.size=none->∀b∈ [(s1.heap.push {cls:=.type "dict_items",data:=.fields #[.ref a]}).objs.size],u_9 X zd H2 b:=λH2 hn b hb=>by
  have e:b=(s1.heap.push {cls:=.type "dict_items",data:=.fields #[.ref a]}).objs.size:=by simpa using hb
  subst e;exact I1.fpOk le hn
 rcases q with⟨hH,q⟩|⟨ob,hH,q⟩
 ·have nf:∀o v,X.H₀ a≠some (.frz o v):=λo v e=>by
   have:=I1.base.frzs a o v e;rw [hH] at this;cases this
  have ok:ObjOk X.prog X.w (upd H1 a (.frz od (.dK kvs))) ((s1.heap.push {cls:=.type "dict_items",data:=.fields #[.ref a]}).push {cls:=.type "dict_itemiterator",data:=.fields #[.none,.bool false,.ref a,.int 0 0,.int ws.length 0,.int ep 0,.none,.none]}) a (.frz od (.dK kvs)):=⟨gp _ _ g1,z,lo,ws,kv,od,es,ep,gp _ _ g1,c1,c2,c3⟩;have I3:=Inv.retag I2 hH (λ_ z=>by cases z) (λ_ z=>by cases z) (λ_ z=>by cases z) nf ok;refine⟨_,_,_,Iti a od kvs,_,rfl,I3,as_7 a _ od kvs c2,⟨_,_,tn0⟩,fr _ ?_,q od nf⟩;rw [An (λz=>by rw [z,hH] at free;cases free)];exact free
 ·obtain⟨g2,_⟩:=(show ObjOk X.prog X.w H1 s1.heap a (.frz ob (.dK kvs)) from I1.hok a _ hH);rw [g1] at g2;cases g2;exact⟨_,_,_,Iti a od kvs,H1,rfl,I2,as_7 a _ od kvs c2,⟨_,_,tn0⟩,fr _ free,q⟩
open Classical in
def Eh(a:Addr)(u:HO)(F:Hp):Hp:=λb=>if b=a/\F b≠none then some u else F b
section
variable{K:Frag}{EX:Ay}{a:Addr}{u u0:HO}{F F' G H:Hp}
theorem p_4{b:Addr}(h:b≠a):Eh a u F b=F b:=by unfold Eh;rw [if_neg λz=>h z.1]
theorem ad_1(h:F a≠none):Eh a u F a=some u:=by unfold Eh;rw [if_pos ⟨rfl,h⟩]
theorem tag_none{b:Addr}:Eh a u F b=none↔F b=none:=by
 unfold Eh
 by_cases h:b=a/\F b≠none
 ·rw [if_pos h];exact⟨λz=>(nomatch z),λz=>absurd z h.2⟩
 ·rw [if_neg h]
theorem bg_0(h:F a≠none):Eh a u F=upd F a u:=by
 funext b
 by_cases e:b=a
 ·subst e;rw [ad_1 h,Ba]
 ·rw [p_4 e,An e]
theorem as_8(s:Same F F'):Same (Eh a u F) (Eh a u F'):=λb o q=>by
 by_cases e:b=a
 ·subst e;cases h:F b with
  |none=>rw [tag_none.mpr h] at q;cases q
  |some x=>
   rw [ad_1 (by rw [h];exact λz=>by cases z)] at q;cases q;exact ad_1 (by rw [s _ _ h];exact λz=>by cases z)
 ·rw [p_4 e] at q⊢;exact s _ _ q
theorem cq_9{G' H':Hp}(s:Step G H G' H'):Step (Eh a u G) (Eh a u H) (Eh a u G') (Eh a u H'):=
 ⟨as_8 s.hh,as_8 s.gh,as_8 s.gg,λb n z=>tag_none.mpr (s.nw b (tag_none.mp n) λq=>z (tag_none.mpr q))⟩
mutual
theorem Ow.tagged{G' H':Hp}(hg:∀v d,Has K G v d->Has K G' v d):∀{v:V} {t:Tn} {S:AS},Ow K G H v t S->(∀b o,S b->H b=some o->H' b=some o)->Ow K G' H' v t S
 |_,_,_,.sh h,_=> .sh (hg _ _ h)
 |_,_,_,.lst h ha sub r,k=> .lst (k _ _ ha h) ha sub (OwL.tagged hg r λb o hb=>k b o (sub b hb).1)
 |_,_,_,.tup h ha sub r,k=> .tup (k _ _ ha h) ha sub (OwL.tagged hg r λb o hb=>k b o (sub b hb).1)
 |_,_,_,.dic h hk ha sub r,k=> .dic (k _ _ ha h) hk ha sub (OwL.tagged hg r λb o hb=>k b o (sub b hb).1)
 |_,_,_,.obj hc h hl ha sub r,k=> .obj hc (k _ _ ha h) hl ha sub (OwL.tagged hg r λb o hb=>k b o (sub b hb).1)
theorem OwL.tagged{G' H':Hp}(hg:∀v d,Has K G v d->Has K G' v d):∀{vs:List V} {ts:List Tn} {S:AS},OwL K G H vs ts S->(∀b o,S b->H b=some o->H' b=some o)->OwL K G' H' vs ts S
 |_,_,_,.nil,_=> .nil
 |_,_,_,.cons h r dj s1 s2,k=> .cons (Ow.tagged hg h λb o hb=>k b o (s1 b hb)) (OwL.tagged hg r λb o hb=>k b o (s2 b hb)) dj s1 s2
end
variable{H0:HB}{G0:Hp}{σ:Sg}{Δ:SE}{O:OS}{kvs:List (Af×V)}{ob:Obj}
theorem Ev.tag(E:Ev K H0 G0 G H σ Δ O)(hG:G a=some (.dK kvs)):Ev K ⟨Eh a (.frz ob (.dK kvs)) H0.h,H0.b⟩ (Eh a (.frz ob (.dK kvs)) G0) (Eh a (.frz ob (.dK kvs)) G) (Eh a (.frz ob (.dK kvs)) H) σ Δ O:=by
 have nn:G a≠none:=by rw [hG];exact λz=>by cases z
 have hg:∀v d,Has K G v d->Has K (Eh a (.frz ob (.dK kvs)) G) v d:=λv d r=>by
  rw [bg_0 nn];exact Has.tag hG (.inl rfl) (.inr ⟨ob,rfl⟩) r
 refine⟨cq_9 E.st,E.len,λi d q=> ?_,λi s t q o=> ?_,λi b h=> ?_,E.dj,E.lk,E.lt⟩
 ·obtain⟨v,e,r⟩:=E.sh i d q;exact⟨v,e,hg v d r⟩
 ·obtain⟨v,e,r⟩:=E.ow i s t q o;refine⟨v,e,Ow.tagged hg r λb o hb q=> ?_⟩;have:b≠a:=λz=>by subst z;exact nn (E.out i b hb).1
  rw [p_4 this];exact q
 ·obtain⟨h1,h2,h3⟩:=E.out i b h;exact⟨tag_none.mpr h1,tag_none.mpr h2,λz=>h3 (tag_none.mp z)⟩
theorem Ev.untag(E:Ev K ⟨Eh a (.frz ob (.dK kvs)) H0.h,H0.b⟩ (Eh a (.frz ob (.dK kvs)) G0) G H σ Δ O)(hG:G a=some (.frz ob (.dK kvs)))(h0:∀o,H0.h a=some o->o=.dK kvs)(g0:∀o,G0 a=some o->o=.dK kvs):Ev K H0 G0 (upd G a (.dK kvs)) (upd H a (.dK kvs)) σ Δ O:=by
 have hg:∀v d,Has K G v d->Has K (upd G a (.dK kvs)) v d:=λv d r=>Has.tag hG (.inr ⟨ob,rfl⟩) (.inl rfl) r;have ne:∀b,G b=none->b≠a:=λb n z=>by subst z;rw [hG] at n;cases n
 refine⟨⟨λb o q=> ?_,q_4 E.st.gh _ _,λb o q=> ?_,λb n z=> ?_⟩,E.len,λi d q=> ?_,λi s t q o=> ?_,λi b h=> ?_,E.dj,E.lk,E.lt⟩
 ·by_cases e:b=a
  ·subst e;rw [Ba,h0 o q]
  ·rw [An e];exact E.st.hh b o ((p_4 e).trans q)
 ·by_cases e:b=a
  ·subst e;rw [Ba,g0 o q]
  ·rw [An e];exact E.st.gg b o ((p_4 e).trans q)
 ·have n1:=E.st.nw b (tag_none.mpr n) λq=>z (tag_none.mp q);rw [An (ne b n1)];exact n1
 ·obtain⟨v,e,r⟩:=E.sh i d q;exact⟨v,e,hg v d r⟩
 ·obtain⟨v,e,r⟩:=E.ow i s t q o;refine⟨v,e,Ow.tagged hg r λb o hb q=> ?_⟩;rw [An (ne b (E.out i b hb).1)];exact q
 ·obtain⟨h1,h2,h3⟩:=E.out i b h;have n:=ne b h1;exact⟨by rw [An n];exact h1,tag_none.mp h2,by rw [An n];exact h3⟩
def unE(H₀:Hp)(D:Ends):Ends:=
 ⟨λ σ H=>D.nx σ H\/∃a ob kvs,H a=some (.frz ob (.dK kvs))/\(∀o v,H₀ a≠some (.frz o v))/\D.nx σ (upd H a (.dK kvs)),
  λv H=>D.rt v H\/∃a ob kvs,H a=some (.frz ob (.dK kvs))/\(∀o v,H₀ a≠some (.frz o v))/\D.rt v (upd H a (.dK kvs)),D.bk,D.ct⟩
theorem ds_2{st:Stmt}{t:TS}(h:PS X st t):PS X st λD σ H=>t (unE X.H₀ D) σ H:=λzd s σ H D I q=>Aw (h zd s σ H _ I q) λf s' hq=>by
 have un:∀{σ':Sg} {H':Hp} {a:Addr} {ob:Obj} {kvs:List (Af×V)},Inv X zd σ' H' s'->H' a=some (.frz ob (.dK kvs))->(∀o v,X.H₀ a≠some (.frz o v))->Inv X zd σ' (upd H' a (.dK kvs)) s':=λI' e nf=>by
  obtain⟨_,okd⟩:=(show ObjOk X.prog X.w _ s'.heap _ (.frz _ (.dK _)) from I'.hok _ _ e);exact Inv.retag I' e (λ_ z=>by cases z) (λ_ z=>by cases z) (λ_ z=>by cases z) nf okd
 cases f with
 |next=>
  obtain⟨σ',H',I',d|⟨a,ob,kvs,e,nf,d⟩⟩:=hq
  ·exact⟨σ',H',I',d⟩
  ·exact⟨σ',_,un I' e nf,d⟩
 |ret u=>
  obtain⟨v,σ',H',I',r,d|⟨a,ob,kvs,e,nf,d⟩⟩:=hq
  ·exact⟨v,σ',H',I',r,d⟩
  ·exact⟨v,σ',_,un I' e nf,r,d⟩
 |brk=>exact hq
 |cont=>exact hq
def ba_8:Fl->Fl
 | .nx Δ=> .nx Δ
 | .rt (.sh d)=> .rt (.sh d)
 | .rv d Δ=> .rv d Δ
 |_=> .no
theorem Fin.tag{D:Ends}{H₀ G1:Hp}{r:Fl}(nf:∀o v,H₀ a≠some (.frz o v))(hG:G1 a=some (.dK kvs))(h0:∀o,H0.h a=some o->o=.dK kvs)(g0:∀o,G0 a=some o->o=.dK kvs)(q:Fin K EX H0 G0 G1 D (ba_8 r)):Fin K EX ⟨Eh a (.frz ob (.dK kvs)) H0.h,H0.b⟩ (Eh a (.frz ob (.dK kvs)) G0) (Eh a (.frz ob (.dK kvs)) G1) (unE H₀ D) r:=by
 have nn:G1 a≠none:=by rw [hG];exact λz=>by cases z
 have at':∀{G:Hp},Same (Eh a (.frz ob (.dK kvs)) G1) G->G a=some (.frz ob (.dK kvs))/\Same G1 (upd G a (.dK kvs)):=λ{G} s=>by
  refine⟨s _ _ (ad_1 nn),λb o q=> ?_⟩
  by_cases e:b=a
  ·subst e;rw [Ba,<-hG,q]
  ·rw [An e];exact s _ _ ((p_4 e).trans q)
 cases r with
 |nx Δ=>exact λ σ G H O E s=> .inr ⟨a,ob,kvs,E.st.gh _ _ (at' s).1,nf,q σ _ _ O (E.untag (at' s).1 h0 g0) (at' s).2⟩
 |rv d Δ=>exact λv σ G H O E s r=> .inr ⟨a,ob,kvs,E.st.gh _ _ (at' s).1,nf,q v σ _ _ O (E.untag (at' s).1 h0 g0) (at' s).2 (Has.tag (at' s).1 (.inr ⟨ob,rfl⟩) (.inl rfl) r)⟩
 |bk Δ=>exact q.elim
 |ct Δ=>exact q.elim
 |ex x Δ=>exact q.elim
 |no=>exact q.elim
 |rt w=>
  cases w with
  |ow d=>exact q.elim
  |tr t=>exact q.elim
  |sh d=>
   intro v G2 H2 st r;have q:∀v G' H',Step G0 H0.h G' H'->Has K G' v d->D.rt v H':=q;cases hg:G0 a with
   |some o=>
    have e0:=g0 o hg;subst e0;have gt:G2 a=some (.frz ob (.dK kvs)):=st.gg _ _ (ad_1 (by rw [hg];exact λz=>by cases z));refine .inr ⟨a,ob,kvs,st.gh _ _ gt,nf,q v (upd G2 a (.dK kvs)) _ ⟨λb o q=> ?_,q_4 st.gh _ _,λb o q=> ?_,λb n z=> ?_⟩ (Has.tag gt (.inr ⟨ob,rfl⟩) (.inl rfl) r)⟩
    ·by_cases e:b=a
     ·subst e;rw [Ba,h0 o q]
     ·rw [An e];exact st.hh b o ((p_4 e).trans q)
    ·by_cases e:b=a
     ·subst e;rw [Ba,g0 o q]
     ·rw [An e];exact st.gg b o ((p_4 e).trans q)
    ·have n1:=st.nw b (tag_none.mpr n) λq=>z (tag_none.mp q);rw [An (λz=>by subst z;rw [gt] at n1;cases n1)];exact n1
   |none=>
    cases hh:H0.h a with
    |some o=>
     have e0:=h0 o hh;subst e0;have ht:H2 a=some (.frz ob (.dK kvs)):=st.hh _ _ (ad_1 (by show H0.h a≠none;rw [hh];exact λz=>by cases z));have gn:G2 a=none:=st.nw a (tag_none.mpr hg) λz=>by have:=tag_none.mp z;rw [hh] at this;cases this
     refine .inr ⟨a,ob,kvs,ht,nf,q v G2 _ ⟨λb o q=> ?_,λb o q=> ?_,λb o q=> ?_,λb n z=>st.nw b (tag_none.mpr n) λq=>z (tag_none.mp q)⟩ r⟩
     ·by_cases e:b=a
      ·subst e;rw [Ba,h0 o q]
      ·rw [An e];exact st.hh b o ((p_4 e).trans q)
     ·rw [An (λe=>by subst e;rw [gn] at q;cases q)];exact st.gh b o q
     ·exact st.gg b o ((p_4 (λe=>by subst e;rw [hg] at q;cases q)).trans q)
    |none=>
     refine .inl (q v G2 H2 ⟨λb o q=> ?_,st.gh,λb o q=> ?_,λb n z=>st.nw b (tag_none.mpr n) λq=>z (tag_none.mp q)⟩ r)
     ·exact st.hh b o ((p_4 (λe=>by subst e;rw [hh] at q;cases q)).trans q)
     ·exact st.gg b o ((p_4 (λe=>by subst e;rw [hg] at q;cases q)).trans q)
end
def dn_2:D->R (List D)
 | .dic kds=> .ok (kds.map λp=> .tup [kD p.1,p.2])
 |_=> .no
def Ep(f:FE):FI:=λ δ=>(f δ).bind λw=>dn_2 w.d
theorem aa_7{G:Hp}{a:Addr}{ob:Obj}{kvs:List (Af×V)}{kds:List (Af×D)}(ga:G a=some (.frz ob (.dK kvs)))(hk:kvs.map (·.1)=kds.map (·.1))(r:HasL K G (kvs.map (·.2)) (kds.map (·.2))):ItD K G (Iti a ob kvs) (kds.map λp=> .tup [kD p.1,p.2]):=λG' H' s1 s2 i=>by
 have gH:H' a=some (.frz ob (.dK kvs)):=s2 _ _ (s1 _ _ ga);have zk:kds.length=kvs.length:=by
  have:=congrArg List.length hk;rw [List.length_map,List.length_map] at this;exact this.symm
 refine⟨λd e=>⟨⟨gH, ?_⟩,λx H'' y=> ?_⟩,λe=>⟨gH,by rw [List.length_map] at e;omega⟩⟩
 ·have:=(List.getElem?_eq_some_iff.mp e).1;rw [List.length_map] at this;omega
 ·obtain⟨p,q,hp,rfl,hq,rfl⟩:=y;rw [List.getElem?_map] at e;obtain⟨q',hq',rfl⟩:=Option.map_eq_some_iff.mp e;have e1:(kvs.map (·.1))[i]? =some q.1:=by rw [List.getElem?_map,hq];rfl
  have e2:(kds.map (·.1))[i]? =some q'.1:=by rw [List.getElem?_map,hq'];rfl
  rw [hk,e2] at e1;have e3:q'.1=q.1:=Option.some.inj e1;obtain⟨v,e4,hv⟩:=r.get (show(kds.map (·.2))[i]? =some q'.2 by rw [List.getElem?_map,hq'];rfl);rw [List.getElem?_map,hq] at e4;have e5:q.2=v:=Option.some.inj e4;subst e5;rw [e3];exact⟨_,Step.new s2 hp _,.tup (SqT.of Ba) (.cons (ar_7 _) (.cons (hv.mono (s1.trans (g_4 (s2.free hp) _))) .nil))⟩
def bo_1(js:List Nat)(f:FE)(fg:FG)(g:FS):FS:=λ Δ=>match Ep f (As Δ) with
 | .ok ds=>ba_8 (Dw fg g ds Δ)
 |_=>match Ep f (As (gsome js Δ)) with
  | .ok ds=>ba_8 (Dw fg g ds (gsome js Δ))
  |_=> .no
theorem cr_0{f:FE}{δ:DE}{ds:List D}(h:Ep f δ=.ok ds):∃w kds,f δ=.ok w/\w.d=.dic kds/\ds=kds.map λp=> .tup [kD p.1,p.2]:=by
 unfold Ep at h;cases e:f δ with
 |ok w=>
  rw [e] at h;simp only [R.bind_ok] at h;cases e2:w.d with
  |dic kds=>rw [e2] at h;cases h;exact⟨w,kds,rfl,e2,rfl⟩
  |_=>rw [e2] at h;cases h
 |ex x=>rw [e] at h;cases h
 |no=>rw [e] at h;cases h
theorem Fin.unI{EX:Ay}{H0:HB}{G0 G1 H₀:Hp}{D:Ends}{r:Fl}(q:Fin K EX H0 G0 G1 D (ba_8 r)):Fin K EX H0 G0 G1 (unE H₀ D) r:=by
 cases r with
 |nx Δ=>exact λ σ G H O E s=> .inl (q σ G H O E s)
 |rv d Δ=>exact λv σ G H O E s r=> .inl (q v σ G H O E s r)
 |rt w=>
  cases w with
  |sh d=>exact λv G' H' st r=> .inl (q v G' H' st r)
  |ow d=>exact q.elim
  |tr t=>exact q.elim
 |bk Δ=>exact q.elim
 |ct Δ=>exact q.elim
 |ex x Δ=>exact q.elim
 |no=>exact q.elim
section
variable{X:Cx}{EX:Ay}{pos:Pos}{o:Expr}{elts:List Expr}{x1:Nat}{tp zg zf:Pos}
theorem ad_2{f:FE}{fg:FG}{g:FS}{D:Ends}{σ:Sg}{H0:HB}{G0 G:Hp}{Δ:SE}{O:OS}{ds:List L3.D}(E:Ev X.K H0 G0 G H σ Δ O)(hd:Ep f (As Δ)=.ok ds)(q:Fin X.K EX H0 G0 G D (ba_8 (Dw fg g ds Δ))):tFor (iIm X.H₀ (tD X.K EX f)) (tG X.K EX fg) (tS X.K EX g) (unE X.H₀ D) σ H:=by
 obtain⟨w,kds,ew,ed,rfl⟩:=cr_0 hd;refine⟨G,As Δ,E.st.gh,E.gsh, ?_⟩;rw [ew];refine WP.intro λv G' H' st r=> ?_;rw [ed] at r;cases r with
 |dic hr hk rr=>
  rename_i a kvs;have E':=E.grow st;refine⟨a,kvs,rfl, ?_⟩;rcases hr with hr|⟨ob,hr⟩
  ·have hH:=st.gh _ _ hr;refine .inl ⟨hH,λob nf=> ?_⟩;have nG:G' a≠none:=by rw [hr];exact λz=>by cases z
   have nH:H' a≠none:=by rw [hH];exact λz=>by cases z
   have it:ItD X.K (Eh a (.frz ob (.dK kvs)) G') (Iti a ob kvs) (kds.map λp=> .tup [kD p.1,p.2]):=by
    refine aa_7 (ad_1 nG) hk ?_;rw [bg_0 nG];exact HasL.tag hr (.inl rfl) (.inr ⟨ob,rfl⟩) rr
   have L:=p_9 (E'.tag (ob:=ob) hr) it (Fin.tag (ob:=ob) nf hr (λo e=>by have:=E'.st.hh _ _ e;rw [hH] at this;exact(Option.some.inj this).symm) (λo e=>by have:=E'.st.gg _ _ e;rw [hr] at this;exact(Option.some.inj this).symm) (Fin.mono st.gg q));rw [bg_0 nH] at L;exact L
  ·exact .inr ⟨ob,st.gh _ _ hr,p_9 E' (aa_7 hr hk rr) (Fin.unI (Fin.mono st.gg q))⟩
theorem dc_1(js:List Nat){body:List Stmt}{f:FE}{fg:FG}{g:FS}(hp:PassesOwn (model X.prog X.w) X.A X.env X.xe)(hc:X.calm=true)(ho:ED X EX o f)(hg:GD X EX (.Tuple elts x1 tp) fg)(hb:BD X EX body g)
  (hs:∀x,foldedSetIterable (.Call (.Attribute o "items" zg) [] [] zf) X.env x=pure x:=by intro _;rfl) (af:attributeBase o "items" X.env (eval o X.env)=eval o X.env:=by rfl) (ag:(zg.endLine ==zf.line)=true:=by rfl):SD X EX (.For (.Tuple elts x1 tp) (.Call (.Attribute o "items" zg) [] [] zf) body [] pos) (bo_1 js f fg g):=
 PS.imp (ds_2 (bq_9 hp hc (bo_0 ho af ag) hg hb hs)) λD σ H ⟨H0,G0,G,Δ,O,E,q⟩=>by
  unfold bo_1 at q;cases e1:Ep f (As Δ) with
  |ok ds=>rw [e1] at q;exact ad_2 E e1 q
  |ex x=>
   rw [e1] at q;obtain⟨G1,O1,sg,E1⟩:=E.gsome js;cases e2:Ep f (As (gsome js Δ)) with
   |ok ds=>simp only [e2] at q;exact ad_2 E1 e2 (Fin.mono sg q)
   |ex x=>simp only [e2] at q;exact q.elim
   |no=>simp only [e2] at q;exact q.elim
  |no=>
   rw [e1] at q;obtain⟨G1,O1,sg,E1⟩:=E.gsome js;cases e2:Ep f (As (gsome js Δ)) with
   |ok ds=>simp only [e2] at q;exact ad_2 E1 e2 (Fin.mono sg q)
   |ex x=>simp only [e2] at q;exact q.elim
   |no=>simp only [e2] at q;exact q.elim
theorem ch_5{elt:Expr}{ifs:List Expr}{scope:Scope}{N':List Str}{f0:FE}{fg:Eu}{p:FT}{f:FE}{m:Nat}(hx0:∀e s,¬X.xe e s)(hc:X.calm=true)(ho:ED X Bq o f0)(hk:scope.kind=.function)(hb:u_1 scope.names X.env.scope.names X.N N'=true)
  (hm:N'.length=X.N.length + m)
  (hin:∀C s0 H0 fp pn,GC (Cj X scope (Bw X.env.cells scope.names []) N' C s0 H0 fp pn) Bq (.Tuple elts x1 tp) fg/\CTs (Cj X scope (Bw X.env.cells scope.names []) N' C s0 H0 fp pn) Bq ifs p/\ED (Cj X scope (Bw X.env.cells scope.names []) N' C s0 H0 fp pn) Bq elt f)
  (hs:∀x,foldedSetIterable (.Call (.Attribute o "items" zg) [] [] zf) X.env x=pure x:=by intro _;rfl) (af:attributeBase o "items" X.env (eval o X.env)=eval o X.env:=by rfl) (ag:(zg.endLine ==zf.line)=true:=by rfl):ED X Bq (.ListComp elt [⟨.Tuple elts x1 tp,.Call (.Attribute o "items" zg) [] [] zf,ifs,0⟩] scope pos) (Cc m (Ep f0) fg p f):=by
 intro zd s σ H Q I q;obtain⟨G,δ,g0,h0,o⟩:=q;rw [eval_ListComp];have n:=x_6 I.ok hk hb
 
 obtain⟨w,kds,ew,ed⟩:∃w kds,f0 δ=.ok w/\w.d=.dic kds:=by
  unfold Cc Ep at o;cases e:f0 δ with
  |ok w=>
   rw [e] at o;simp only [R.bind_ok] at o;cases e2:w.d with
   |dic kds=>exact⟨w,kds,rfl,e2⟩
   |_=>rw [e2] at o;exact False.elim o
  |ex x=>rw [e] at o;exact False.elim o
  |no=>rw [e] at o;exact False.elim o
 have ek:Ep f0 δ=.ok (kds.map λp=> .tup [kD p.1,p.2]):=by
  unfold Ep;rw [ew,R.bind_ok,ed];rfl
 let Z:Hp->Hp->Prop:=λG2 H2=>∃(a:Addr) (ob:Obj) (kvs:List (Af×V)) (G1 H1:Hp),Step G H G1 H1/\((G2=G1/\H2=H1)\/(G1 a=some (.dK kvs)/\(∀o v,X.H₀ a≠some (.frz o v))/\G2=upd G1 a (.frz ob (.dK kvs))/\H2=upd H1 a (.frz ob (.dK kvs))))
 refine wpAny_comprehension_free (use:=none) rfl hs n.clos n.kind n.names (ai_1 (RR:=λzp C=>compPost (model X.prog X.w) X.A X.xe none (EP X zd σ Q) zp C) hx0 (B:=az_5) hk hb hm hin I (Z:=Z) (fi:=Ep f0) (δ:=δ) (λG2 H2 z=> ?_) (λ_ _ _ _ _ _=>hc) ?_ ?_ λDa C s1 G2 H2 G' H' vs rs e Io hm' fc z st h1 h2 h3 rl=> ?_)
 ·obtain⟨a,ob,kvs,G1,H1,st,z⟩:=z;rcases z with⟨rfl,rfl⟩|⟨ga,_,rfl,rfl⟩
  ·exact⟨st.gh,h0.mono st.gg⟩
  ·refine⟨q_4 st.gh _ _,(h0.mono st.gg).len,λi d e=> ?_⟩;obtain⟨v,e1,r⟩:=(h0.mono st.gg).get i d e;exact⟨v,e1,Has.tag ga (.inl rfl) (.inr ⟨ob,rfl⟩) r⟩
 ·have tq:tD X.K Bq f0 σ H λx H1=>∃a kvs,x=.ref a/\((H1 a=some (.dK kvs)/\∀ob,(∀o v,X.H₀ a≠some (.frz o v))->∃G2,Z G2 (upd H1 a (.frz ob (.dK kvs)))/\ItD X.K G2 (Iti a ob kvs) (kds.map λp=> .tup [kD p.1,p.2]))\/(∃ob,H1 a=some (.frz ob (.dK kvs))/\∃G2,Z G2 H1/\ItD X.K G2 (Iti a ob kvs) (kds.map λp=> .tup [kD p.1,p.2]))):=by
   refine⟨G,δ,g0,h0, ?_⟩;rw [ew];refine WP.intro λv G1 H1 st r=> ?_;rw [ed] at r;cases r with
   |dic hr hk' rr=>
    rename_i a kvs;refine⟨a,kvs,rfl, ?_⟩;rcases hr with hr|⟨ob,hr⟩
    ·refine .inl ⟨st.gh _ _ hr,λob nf=>⟨upd G1 a (.frz ob (.dK kvs)),⟨a,ob,kvs,G1,H1,st,.inr ⟨hr,nf,rfl,rfl⟩⟩,aa_7 Ba hk' (HasL.tag hr (.inl rfl) (.inr ⟨ob,rfl⟩) rr)⟩⟩
    ·exact .inr ⟨ob,st.gh _ _ hr,G1,⟨a,ob,kvs,G1,H1,st,.inl ⟨rfl,rfl⟩⟩,aa_7 hr hk' rr⟩
  refine Aw (bo_0 (elts:=elts) (x1:=x1) (tp:=tp) ho af ag zd s σ H (λJ H2=>∃G2,Z G2 H2/\ItD X.K G2 J (kds.map λp:Af×L3.D=> .tup [kD p.1,p.2])) I tq) λv s1 h1=>Aw h1 λitv s2 h2=> ?_;obtain⟨it,fp,tn,J,H2,e,I2,T,t0,fpk,G2,z,itd⟩:=h2;exact⟨it,fp,tn,J,H2,_,G2,e,I2,Turn.z T,t0,fpk,ek,z,itd⟩
 ·cases e:Cc m (Ep f0) fg p f δ with
  |ok w=>trivial
  |ex x=>rw [e] at o;exact o
  |no=>rw [e] at o;exact o
 ·rw [e] at o;obtain⟨mm,hnm⟩:=hm';obtain⟨c0,c1,c2,c3,c4,c5⟩:=fc;obtain⟨a,ob,kvs,G1,H1,st1,z⟩:=z;rcases z with⟨rfl,rfl⟩|⟨ga,nf,rfl,rfl⟩
  ·exact⟨mm,hnm,λh' sb=>⟨.ref Da,H',Io.turned (t':=s1.toks) (λb ob hb e=>(sb.2 b hb).trans e) c0 c1 c3 c4 c5,rfl,o (.ref Da) (λb=>b=Da) G' H' (st1.trans st) (λa e=>by subst e;exact⟨st1.hh.free h1,h3,by rw [h2];simp⟩) (.list h2 rfl rl)⟩⟩
  ·have gF:G' a=some (.frz ob (.dK kvs)):=st.gg _ _ Ba;have hF:H' a=some (.frz ob (.dK kvs)):=st.hh _ _ Ba;have hH1:H1 a=some (.dK kvs):=st1.gh _ _ ga;have nDa:Da≠a:=λz=>by rw [z,Ba] at h1;cases h1
   have nC:C≠a:=λz=>by rw [z,hF] at c0;cases c0
   obtain⟨_,okd⟩:=(show ObjOk X.prog X.w H' s1.heap a (.frz ob (.dK kvs)) from Io.hok a _ hF);have I4:Inv X zd σ (upd H' a (.dK kvs)) s1:=Inv.retag Io hF (λ_ z=>by cases z) (λ_ z=>by cases z) (λ_ z=>by cases z) nf okd;have stA:Step G H (upd G' a (.dK kvs)) (upd H' a (.dK kvs)):=by
    refine⟨λb o z=> ?_,q_4 st.gh _ _,λb o z=> ?_,λb z1 z2=> ?_⟩
    ·have z1:=st1.hh _ _ z
     by_cases hb:b=a
     ·subst hb;rw [hH1] at z1;rw [Ba];exact z1
     ·rw [An hb];exact st.hh _ _ (by rw [An hb];exact z1)
    ·have z1:=st1.gg _ _ z
     by_cases hb:b=a
     ·subst hb;rw [ga] at z1;rw [Ba];exact z1
     ·rw [An hb];exact st.gg _ _ (by rw [An hb];exact z1)
    ·have g1:=st1.nw b z1 z2;have hb:b≠a:=λq=>by rw [q,ga] at g1;cases g1
     rw [An hb];exact st.nw b (by rw [An hb];exact g1) (by rw [An hb];exact λq=>z2 (st1.hh.free q))
   have h2':upd H' a (.dK kvs) Da=some (.lst vs):=by rw [An nDa];exact h2
   refine⟨mm,hnm,λh' sb=>⟨.ref Da,_,I4.turned (t':=s1.toks) (λb ob hb e=>(sb.2 b hb).trans e) (by rw [An nC];exact c0) c1 c3 c4 c5,rfl,o (.ref Da) (λb=>b=Da) _ _ stA (λx e=> ?_) (.list h2' rfl (HasL.tag gF (.inr ⟨ob,rfl⟩) (.inl rfl) rl))⟩⟩;subst e;refine⟨st1.hh.free (by rw [An nDa] at h1;exact h1),by rw [An nDa];exact h3,by rw [h2'];simp⟩
theorem cr_1{elt:Expr}{ifs:List Expr}{scope:Scope}{N':List Str}{f0:FE}{fg:Eu}{p:FT}{f:FE}{m:Nat}(hc:X.calm=true)(ho:ED X.nox Bq o f0)(hk:scope.kind=.function)(hb:u_1 scope.names X.env.scope.names X.N N'=true)
  (hm:N'.length=X.N.length + m)
  (hin:∀C s0 H0 fp pn,GC (Cj X scope (Bw X.env.cells scope.names []) N' C s0 H0 fp pn) Bq (.Tuple elts x1 tp) fg/\CTs (Cj X scope (Bw X.env.cells scope.names []) N' C s0 H0 fp pn) Bq ifs p/\ED (Cj X scope (Bw X.env.cells scope.names []) N' C s0 H0 fp pn) Bq elt f)
  (hs:∀x,foldedSetIterable (.Call (.Attribute o "items" zg) [] [] zf) X.env x=pure x:=by intro _;rfl) (af:attributeBase o "items" X.env (eval o X.env)=eval o X.env:=by rfl) (ag:(zg.endLine ==zf.line)=true:=by rfl):ED X EX (.ListComp elt [⟨.Tuple elts x1 tp,.Call (.Attribute o "items" zg) [] [] zf,ifs,0⟩] scope pos) (Cc m (Ep f0) fg p f):=
 PE.imp (PE.nox (ch_5 (X:=X.nox) (λ_ _ z=>z) hc ho hk hb hm hin hs af ag)) λ σ H Q ⟨G,δ,g0,h0,o⟩=>by
  refine⟨G,δ,g0,h0, ?_⟩;cases e:Cc m (Ep f0) fg p f δ with
  |ok w=>rw [e] at o;exact o
  |ex x=>exact(ae_5 e).elim
  |no=>rw [e] at o;exact o
end
end L3
namespace L3
open PySem PySem.W PyProof.Rows
variable{K:Frag}{fd:FuncData}{mg:Str->Option Value}{us:List Value}{base:Heap}{H:Hp}{X:Cx}{pos:Pos}{v:V}
section
variable{N:Nat}{key:Nat->Int}{cmp:Nat->Nat->(Bool->Shared->Prop)->Shared->Prop}{s:Shared}
structure GoodP(N:Nat)(p:Array Nat):Prop where
 size:p.size=N
 perm:p.toList.Perm (List.range N)
abbrev kp(key:Nat->Int)(p:Array Nat)(i:Nat):Int:=key (p.getD i 0)
theorem GoodP.lt{p:Array Nat}(g:GoodP N p){i:Nat}(h:i < N):p.getD i 0 < N:=by
 have h':i < p.size:=by rw [g.size];exact h
 have e:p.getD i 0=p[i]:=by simp [Array.getD,h']
 rw [e];exact List.mem_range.mp (g.perm.mem_iff.mp (by simp))
theorem GoodP.inj{p:Array Nat}(g:GoodP N p){i j:Nat}(hi:i < N)(hj:j < N)(e:p.getD i 0=p.getD j 0):i=j:=by
 have h1:i < p.size:=by rw [g.size];exact hi
 have h2:j < p.size:=by rw [g.size];exact hj
 have e1:p.getD i 0=p[i]:=by simp [Array.getD,h1]
 have e2:p.getD j 0=p[j]:=by simp [Array.getD,h2]
 rw [e1,e2] at e;have nd:p.toList.Nodup:=g.perm.nodup_iff.mpr List.nodup_range;have pw:=List.pairwise_iff_getElem.mp nd;rcases Nat.lt_trichotomy i j with h|h|h
 ·exact absurd (by rw [Array.getElem_toList,Array.getElem_toList];exact e) (pw i j _ _ h)
 ·exact h
 ·exact absurd (by rw [Array.getElem_toList,Array.getElem_toList];exact e.symm) (pw j i _ _ h)
theorem ap_0{p q:Array Nat}{i j:Nat}(h:p[i]? =q[j]?):p.getD i 0=q.getD j 0:=by
 rw [Array.getD_eq_getD_getElem?,Array.getD_eq_getD_getElem?,h]
theorem GoodP.rev{p:Array Nat}(g:GoodP N p)(i j:Nat):GoodP N (kas_rev p i j):=⟨(mirror_size _ _ _ _).trans g.size,(Array.perm_iff_toList_perm.mp (mirror_perm p i j _)).trans g.perm⟩
theorem GoodP.bub{p:Array Nat}(g:GoodP N p)(i j:Nat):GoodP N (bubble p i j):=⟨(bubble_size _ _ _).trans g.size,(Array.perm_iff_toList_perm.mp (bubble_perm p i j)).trans g.perm⟩
def Asc(key:Nat->Int)(p:Array Nat)(n:Nat):Prop:=∀i j,i < j->j < n->kp key p i < kp key p j
def Des(key:Nat->Int)(p:Array Nat)(n:Nat):Prop:=∀i j,i < j->j < n->kp key p j < kp key p i
def df_9(N:Nat)(key:Nat->Int)(cmp:Nat->Nat->(Bool->Shared->Prop)->Shared->Prop)(s:Shared):Prop:=(∀i j,i < N->j < N->key i=key j->i=j)/\∀i j C,i < N->j < N->i≠j->C (decide (key i < key j)) s->cmp i j C s
variable(T:df_9 N key cmp s)
include T
theorem af_6{p:Array Nat}(g:GoodP N p){i j:Nat}(hi:i < N)(hj:j < N)(hn:i≠j){C:Bool->Shared->Prop}(h1:kp key p i < kp key p j->C true s)(h2:kp key p j < kp key p i->C false s):cmp (p.getD i 0) (p.getD j 0) C s:=by
 refine T.2 _ _ _ (g.lt hi) (g.lt hj) (λe=>hn (g.inj hi hj e)) ?_
 by_cases h:key (p.getD i 0) < key (p.getD j 0)
 ·rw [decide_eq_true h];exact h1 h
 ·rw [decide_eq_false h];have:key (p.getD i 0)≠key (p.getD j 0):=λe=>hn (g.inj hi hj (T.1 _ _ (g.lt hi) (g.lt hj) e));exact h2 (show key _ < key _ by omega)
theorem Asc.up{p:Array Nat}{n:Nat}(h:Asc key p n)(h1:1<=n)(hn:kp key p (n - 1) < kp key p n):Asc key p (n + 1):=λi j hij hj=>by
 by_cases e:j=n
 ·subst e
  by_cases e2:i=j - 1
  ·subst e2;exact hn
  ·exact Int.lt_trans (h i (j - 1) (by omega) (by omega)) hn
 ·exact h i j hij (by omega)
theorem Des.up{p:Array Nat}{n:Nat}(h:Des key p n)(h1:1<=n)(hn:kp key p n < kp key p (n - 1)):Des key p (n + 1):=λi j hij hj=>by
 by_cases e:j=n
 ·subst e
  by_cases e2:i=j - 1
  ·subst e2;exact hn
  ·exact Int.lt_trans hn (h i (j - 1) (by omega) (by omega))
 ·exact h i j hij (by omega)
theorem bu_3{p:Array Nat}(g:GoodP N p):∀(f n:Nat) {Q:Nat->Shared->Prop},1<=n->n + f<=N->Asc key p n->(∀m,n<=m->m<=n + f->Asc key p m->(m < n + f->kp key p m < kp key p (m - 1))->Q m s)->(kas_asc p f n).kasWp cmp Q s
 |0,n,Q,_,_,ha,hq=>hq n (Nat.le_refl _) (Nat.le_refl _) ha λh=>absurd h (Nat.lt_irrefl _)
 |f + 1,n,Q,h1,hN,ha,hq=>by
  show cmp (p.getD n 0) (p.getD (n - 1) 0) _ s;refine af_6 T g (by omega) (by omega) (by omega) (λh=> ?_) λh=> ?_
  ·simp only [if_true];exact hq n (Nat.le_refl _) (by omega) ha λ_=>h
  ·simp only [Bool.false_eq_true,if_false];exact bu_3 g f (n + 1) (by omega) (by omega) (Asc.up T ha h1 h) λm a1 a2 a3 a4=>hq m (by omega) (by omega) a3 λhm=>a4 (by omega)
theorem ca_7{p:Array Nat}(g:GoodP N p):∀(f n:Nat) {Q:Array Nat×Nat×Nat->Shared->Prop},1<=n->n + f<=N->Des key p n->(∀m,n<=m->m<=n + f->Des key p m->Q (p,m,0) s)->(kas_desc f p n 0).kasWp cmp Q s
 |0,n,Q,_,_,ha,hq=>hq n (Nat.le_refl _) (Nat.le_refl _) ha
 |f + 1,n,Q,h1,hN,ha,hq=>by
  show cmp (p.getD n 0) (p.getD (n - 1) 0) _ s;refine af_6 T g (by omega) (by omega) (by omega) (λh=> ?_) λh=> ?_
  ·simp only [if_true,Nat.lt_irrefl,gt_iff_lt,if_false];exact ca_7 g f (n + 1) (by omega) (by omega) (Des.up T ha h1 h) λm a1 a2 a3=>hq m (by omega) (by omega) a3
  ·simp only [Bool.false_eq_true,if_false];show cmp (p.getD (n - 1) 0) (p.getD n 0) _ s;refine af_6 T g (by omega) (by omega) (by omega) (λh'=> ?_) λh'=> ?_
   ·simp only [if_true];exact hq n (Nat.le_refl _) (by omega) ha
   ·exact absurd (Int.lt_trans h h') (Int.lt_irrefl _)
theorem dc_2{p:Array Nat}(g:GoodP N p){n:Nat}(hn:n<=N)(h:Des key p n):Asc key (kas_rev p 0 n) n:=λi j hij hj=>by
 have at':∀k,k < n->kp key (kas_rev p 0 n) k=kp key p (n - 1 - k):=λk hk=>by
  have:=getElem?_mirror_all (xs:=p) (i:=0) (j:=n) (by rw [g.size];exact hn) k;rw [if_pos ⟨Nat.zero_le _,hk⟩,Nat.zero_add] at this;exact congrArg key (ap_0 this)
 rw [at' i (by omega),at' j hj];exact h (n - 1 - j) (n - 1 - i) (by omega) (by omega)
theorem dc_3{p:Array Nat}(g:GoodP N p){n:Nat}{Q:Nat×Array Nat->Shared->Prop}(h1:1<=n)(hn:n + 1<=N)(hd:Des key p (n + 1))(hq:∀m q,1<=m->m<=N->GoodP N q->Asc key q m->Q (m,q) s):(kas_descPart n N p).kasWp cmp Q s:=by
 unfold kas_descPart;rw [KasT.kasWp_bind];refine ca_7 T g (N - (n + 1)) (n + 1) (by omega) (by omega) hd λm a1 a2 a3=> ?_;simp only [gt_iff_lt,Nat.lt_irrefl,if_false];unfold kas_tail3;rw [KasT.kasWp_bind];refine bu_3 T (g.rev 0 m) (N - m) m (by omega) (by omega) (dc_2 T g (by omega) a3) λm' b1 b2 b3 _=> ?_;exact hq m' _ (by omega) (by omega) (g.rev 0 m) b3
theorem cr_2{p:Array Nat}(g:GoodP N p){Q:Nat×Array Nat->Shared->Prop}(h1:1<=N)(hq:∀m q,1<=m->m<=N->GoodP N q->Asc key q m->Q (m,q) s):(kas_count N p).kasWp cmp Q s:=by
 unfold kas_count;rw [KasT.kasWp_bind];refine bu_3 T g (N - 1) 1 (Nat.le_refl _) (by omega) (λi j hij hj=>by omega) λn a1 a2 a3 a4=> ?_
 by_cases e:n=N
 ·subst e;simp only [beq_self_eq_true,if_true];exact hq n p a1 (Nat.le_refl _) g a3
 ·have e':(n ==N)=false:=by simpa using e
  simp only [e',Bool.false_eq_true,if_false]
  by_cases h2:n > 1
  ·rw [if_pos h2];show cmp (p.getD 0 0) (p.getD (n - 1) 0) _ s;refine af_6 T g (by omega) (by omega) (by omega) (λh=> ?_) λh=> ?_
   ·simp only [if_true];exact hq n p a1 (by omega) g a3
   ·exact absurd (Int.lt_trans h (a3 0 (n - 1) (by omega) (by omega))) (Int.lt_irrefl _)
  ·rw [if_neg h2];have:n=1:=by omega
   subst this;have h10:=a4 (by omega);exact dc_3 T g (Nat.le_refl _) (by omega) (λi j hij hj=>by
    have:i=0/\j=1:=by omega
    obtain⟨rfl,rfl⟩:=this;exact h10) hq
theorem as_9{p:Array Nat}(g:GoodP N p){k:Nat}(hk:k < N):∀(f l r:Nat) {Q:Nat->Shared->Prop},r - l<=f->l<=r->r<=k->(∀i,i < l->kp key p i < kp key p k)->(∀i,r<=i->i < k->kp key p k < kp key p i)->(∀m,m<=k->(∀i,i < m->kp key p i < kp key p k)->(∀i,m<=i->i < k->kp key p k < kp key p i)->Asc key p k->Q m s)->Asc key p k->(kas_place p k f l r).kasWp cmp Q s
 |0,l,r,Q,hf,hlr,hrk,h1,h2,hq,ha=>hq l (by omega) h1 (λi hi hk=>h2 i (by omega) hk) ha
 |f + 1,l,r,Q,hf,hlr,hrk,h1,h2,hq,ha=>by
  unfold kas_place
  by_cases e:l≥r
  ·rw [if_pos e];exact hq l (by omega) h1 (λi hi hk=>h2 i (by omega) hk) ha
  ·rw [if_neg e];show cmp (p.getD k 0) (p.getD ((l + r) / 2) 0) _ s;refine af_6 T g hk (by omega) (by omega) (λh=> ?_) λh=> ?_
   ·simp only [if_true];refine as_9 g hk f l ((l + r) / 2) (by omega) (by omega) (by omega) h1 (λi hi hik=> ?_) hq ha
    by_cases e2:i=(l + r) / 2
    ·subst e2;exact h
    ·exact Int.lt_trans h (ha _ i (by omega) hik)
   ·simp only [Bool.false_eq_true,if_false];refine as_9 g hk f ((l + r) / 2 + 1) r (by omega) (by omega) hrk (λi hi=> ?_) h2 hq ha
    by_cases e2:i=(l + r) / 2
    ·subst e2;exact h
    ·exact Int.lt_trans (ha i _ (by omega) (by omega)) h
theorem dc_4{p:Array Nat}(g:GoodP N p){k l:Nat}(hk:k < N)(hl:l<=k)(h1:∀i,i < l->kp key p i < kp key p k)(h2:∀i,l<=i->i < k->kp key p k < kp key p i)(ha:Asc key p k):Asc key (bubble p k (k - l)) (k + 1):=λi j hij hj=>by
 have b:=getElem?_bubble (xs:=p) (src:=k) (by rw [g.size];exact hk) (k - l) (by omega);have e:k - (k - l)=l:=by omega
 have Df:kp key (bubble p k (k - l)) l=kp key p k:=congrArg key (ap_0 (by rw [b l,e,if_pos rfl]));have at1:∀x,x < l->kp key (bubble p k (k - l)) x=kp key p x:=λx hx=>congrArg key (ap_0 (by rw [b x,e,if_neg (by omega),if_neg (by omega)]));have at2:∀x,l < x->x<=k->kp key (bubble p k (k - l)) x=kp key p (x - 1):=λx hx hxk=>congrArg key (ap_0 (by rw [b x,e,if_neg (by omega),if_pos ⟨hx,hxk⟩]));rcases Nat.lt_trichotomy i l with h|h|h
 ·rw [at1 i h];rcases Nat.lt_trichotomy j l with h'|h'|h'
  ·rw [at1 j h'];exact ha i j hij (by omega)
  ·rw [h',Df];exact h1 i h
  ·rw [at2 j h' (by omega)];exact ha i (j - 1) (by omega) (by omega)
 ·rw [h,Df,at2 j (by omega) (by omega)];exact h2 (j - 1) (by omega) (by omega)
 ·rw [at2 i h (by omega),at2 j (by omega) (by omega)];exact ha (i - 1) (j - 1) (by omega) (by omega)
theorem cr_3:∀(f:Nat) (p:Array Nat) (k:Nat) {Q:Array Nat->Shared->Prop},GoodP N p->f + k=N->Asc key p k->(∀q,GoodP N q->Asc key q N->Q q s)->(kas_bin f p k).kasWp cmp Q s
 |0,p,k,Q,g,hk,ha,hq=>hq p g (by rw [Nat.zero_add] at hk;rw [<-hk];exact ha)
 |f + 1,p,k,Q,g,hk,ha,hq=>by
  unfold kas_bin;rw [KasT.kasWp_bind];refine as_9 T g (by omega) k 0 k (by omega) (by omega) (Nat.le_refl _) (λi hi=>by omega) (λi h1 h2=>by omega) (λm a1 a2 a3 a4=> ?_) ha;exact cr_3 f _ (k + 1) (g.bub k (k - m)) (by omega) (dc_4 T g (by omega) a1 a2 a3 a4) hq
theorem dc_5(h1:1<=N){Q:Array Nat->Shared->Prop}(hq:∀q,GoodP N q->Asc key q N->Q q s):(kas_sort N).kasWp cmp Q s:=by
 unfold kas_sort;rw [KasT.kasWp_bind];have g0:GoodP N (List.toArray (List.range N)):=⟨by simp,by simp⟩;refine cr_2 T g0 h1 λm q a1 a2 a3 a4=> ?_
 by_cases h:m < N
 ·rw [if_pos h];have e:max m 1=m:=by omega
  rw [e];exact cr_3 T (N - m) q m a3 (by omega) a4 hq
 ·rw [if_neg h];have:m=N:=by omega
  subst this;exact hq q a3 a4
end
end L3
namespace L3
open PySem PySem.W PySem.Spec PyProof.Rows
variable{K:Frag}{fd:FuncData}{mg:Str->Option Value}{us:List Value}{base:Heap}{H:Hp}{X:Cx}{pos:Pos}{v:V}
section
variable{prog:Program}{w:World}{A:Around}{E:Value->Shared->Prop}{s:Shared}{vs fs:List Value}{kz:List Int}
theorem bg_1{h:Heap}:∀{vs fs:List Value} {kz:List Int} {i:Nat},KatTups h vs fs->IntsAre fs kz->i < vs.length->∃a o xs n t tl,vs.getD i Value.none=.ref a/\h.get? a=some o/\o.data=.seq xs n/\xs.toList=.int (kz.getD i 0) t::tl
 | [],_,_,i,_,_,hi=>absurd hi (Nat.not_lt_zero _)
 |v::vs,[],_,_,t,_,_=>t.elim
 |v::vs,f::fs,kz,i,t,ia,hi=>by
  obtain⟨⟨a,o,xs,n,rfl,ho,hc,hd,hf⟩,t⟩:=t;cases ia with
  |cons z tk ia=>
   cases i with
   |zero=>
    refine⟨a,o,xs,n,tk,xs.toList.tail,rfl,ho,hd, ?_⟩;have e:xs.toList[0]? =some (.int z tk):=by rw [Array.getElem?_toList];exact hf
    cases hx:xs.toList with
    |nil=>rw [hx] at e;cases e
    |cons y ys=>rw [hx] at e;cases e;rfl
   |succ i=>
    obtain⟨a',o',xs',n',t',tl',e1,e2,e3,e4⟩:=bg_1 (i:=i) t ia (by simpa using hi);exact⟨a',o',xs',n',t',tl',e1,e2,e3,e4⟩
theorem bu_4(t:KatTups s.heap vs fs)(ia:IntsAre fs kz)(nd:kz.Nodup)(hl:kz.length=vs.length):df_9 vs.length (λi=>kz.getD i 0) (kas_ask prog w A (tuples' true) vs) s:=by
 have inj:∀i j,i < vs.length->j < vs.length->kz.getD i 0=kz.getD j 0->i=j:=λi j hi hj e=>by
  have h1:i < kz.length:=by omega
  have h2:j < kz.length:=by omega
  have e1:kz.getD i 0=kz[i]:=by simp [h1]
  have e2:kz.getD j 0=kz[j]:=by simp [h2]
  rw [e1,e2] at e;have pw:=List.pairwise_iff_getElem.mp nd;rcases Nat.lt_trichotomy i j with h|h|h
  ·exact absurd e (pw i j h1 h2 h)
  ·exact h
  ·exact absurd e.symm (pw j i h2 h1 h)
 refine⟨inj,λi j C hi hj hn hC=> ?_⟩;obtain⟨a,o,xs,n,tk,tl,e1,e2,e3,e4⟩:=bg_1 t ia hi;obtain⟨a',o',xs',n',tk',tl',f1,f2,f3,f4⟩:=bg_1 t ia hj;unfold kas_ask;rw [e1,f1];refine kat_lt e2 e3 f2 f3 ?_;rw [e4,f4];have ne:(kz.getD i 0 ==kz.getD j 0)=false:=by
  rw [beq_eq_false_iff_ne];exact λz=>hn (inj i j hi hj z)
 show wpAny _ _ (eqBool _ _) _ _ _;refine wpAny_eqBool_int ?_;rw [ne];simp only [Bool.false_eq_true,if_false];exact oneLt_int hC
theorem bu_5{a:Addr}{n:Nat}{P:PySem.Fin->Shared->Prop}(ho:s.heap.get? a=some (seqObj "list" vs.toArray n))(ht:∀h':Heap,(∀b o,b≠a->s.heap.get? b=some o->h'.get? b=some o)->KatTups h' vs fs)(ia:IntsAre fs kz)(nd:kz.Nodup)(hl:kz.length=vs.length)(h64:vs.length < 64)
  (h:∀p:Array Nat,GoodP vs.length p->Asc (λi=>kz.getD i 0) p vs.length->P (.done (.ret .none)) {s with heap:=sortedHeap s.heap a vs (List.toArray (p.toList.map λi=>vs.getD i Value.none))}):
  wpAny (model prog w) A (Builtin.«list.sort» ⟨[.ref a],[]⟩) P E s:=by
 rw [list_sort_plain];have ha:a < s.heap.objs.size:=Heap.lt_size ho;refine wpAny_bind (listItems_at ho rfl ?_);refine wpAny_bind (listUpdate_at ho rfl ?_ (by rw [List.size_toArray,sizeLine_eq];omega) (Nat.zero_le _));obtain⟨e1,ho1⟩:∃e1,(s.heap.update a (Obj.mapSeq λ_=>(#[]:Array Value))).get? a=some (seqObj "list" #[] e1):=⟨_,get?_update_seq ho (λ_=> #[])⟩;refine wpAny_bind (seqEpoch_at ho1 rfl ?_);refine wpAny_bind (wpAny_newTuple ?_ (by show vs.length<=_;rw [sizeLine_eq];omega));refine wpAny_bind (wpAny_newList ?_ (Nat.zero_le _));refine wpAny_holding ?_;have ho6:(((s.heap.update a (Obj.mapSeq λ_=>(#[]:Array Value))).push (seqObj "tuple" vs.toArray 0)).push (seqObj "list" #[] 0)).get? a=some (seqObj "list" #[] e1):=Heap.get?_push_of_some _ (Heap.get?_push_of_some _ ho1);have kk:∀b o,b≠a->s.heap.get? b=some o->(((s.heap.update a (Obj.mapSeq λ_=>(#[]:Array Value))).push (seqObj "tuple" vs.toArray 0)).push (seqObj "list" #[] 0)).get? b=some o:=λb o hb q=>Heap.get?_push_of_some _ (Heap.get?_push_of_some _ (by rw [Heap.get?_update_ne _ _ _ _ hb];exact q));have t:=ht _ kk;show wpAny (model prog w) A _ P E {s with heap:=((s.heap.update a (Obj.mapSeq λ_=>(#[]:Array Value))).push (seqObj "tuple" vs.toArray 0)).push (seqObj "list" #[] 0)};dsimp only;have hsz:vs.toArray.size=vs.length:=by simp
 have g0:GoodP vs.length (List.toArray (List.range vs.length)):=⟨by simp,by simp⟩
 by_cases h2:vs.toArray.size < 2
 ·rw [if_pos h2,if_pos h2];refine wpAny_bind (wpAny_pure ?_);rw [StateT.run_pure];refine wpAny_bind (wpAny_pure ?_);dsimp only;refine wpAny_bind (seqEpoch_at ho6 rfl ?_);refine wpAny_bind (listUpdate_at ho6 rfl ?_ (Nat.zero_le _) (by rw [Array.size_map];show(pairsOf vs).size<=_;rw [pairsOf_size,sizeLine_eq];omega));simp only [bne_self_eq_false,Bool.false_eq_true,if_false];refine wpAny_pure ?_;have q:=h _ g0 (λi j hij hj=>by rw [hsz] at h2;omega);have eo:(arrOf (SortSt.mk' general' (vs.toArray.zip vs.toArray) #[] 7 none)).map (·.2)=List.toArray ((List.toArray (List.range vs.length)).toList.map λi=>vs.getD i Value.none):=by
   refine kat_snds rfl ?_;exact(kas_range (vs.toArray.zip vs.toArray)).symm.trans (by rw [show(vs.toArray.zip vs.toArray).size=vs.length by simp])
  rw [<-eo] at q;exact q
 ·rw [if_neg h2,if_neg h2];have hf:0 < fs.length:=by
   have:fs.length=kz.length:=ia.length;rw [hsz] at h2;omega
  refine wpAny_bind (kat_kind (T:=.type "int") t hf (λv hv=> ?_) (by rfl) ?_)
  ·have:∀{fs:List Value} {kz:List Int},IntsAre fs kz->v∈fs->∃n t,v=.int n t:=λ{fs kz} ia=>by
    induction ia with
    |nil=>intro h;cases h
    |cons n t r ih=>
     intro h;rcases List.mem_cons.mp h with rfl|h
     ·exact⟨n,t,rfl⟩
     ·exact ih h
   obtain⟨n,t,rfl⟩:=this ia hv;exact .now
  ·refine wpAny_bind (wpAny_mono (kat_run (Q:=λst' s'=>s'={s with heap:=((s.heap.update a (Obj.mapSeq λ_=>(#[]:Array Value))).push (seqObj "tuple" vs.toArray 0)).push (seqObj "list" #[] 0)}/\∃p:Array Nat,arrOf st'=p.map (kas_item (vs.toArray.zip vs.toArray))/\failedOf st'=none/\GoodP vs.length p/\Asc (λi=>kz.getD i 0) p vs.length) (G:=λp s'=>s'={s with heap:=((s.heap.update a (Obj.mapSeq λ_=>(#[]:Array Value))).push (seqObj "tuple" vs.toArray 0)).push (seqObj "list" #[] 0)}/\GoodP vs.length p/\Asc (λi=>kz.getD i 0) p vs.length)
    rfl (by omega) h64 (λp' st' s' a1 a2 a3 a4=>⟨a4.1,p',a2,a3,a4.2⟩) (dc_5 (bu_4 t ia nd hl) (by omega) λq g as=>⟨rfl,g,as⟩)) ?_ λ_ _ e=>e)
   rintro ⟨⟨⟩,st'⟩ s' ⟨rfl,p,har,hf',g,as⟩
   dsimp only;have de:=kat_snds rfl har;have hz:(List.toArray (p.toList.map λi=>vs.getD i Value.none)).size=vs.length:=by rw [List.size_toArray,List.length_map,Array.length_toList,g.size]
   refine wpAny_bind (seqEpoch_at ho6 rfl ?_);refine wpAny_bind (listUpdate_at ho6 rfl ?_ (Nat.zero_le _) (by rw [de,hz,sizeLine_eq];omega));rw [hf',de];simp only [bne_self_eq_false,Bool.false_eq_true,if_false];exact wpAny_pure (h p g as)
theorem bo_2{l:Addr}{Q:Value->Shared->Prop}(hl':s.heap.IsList l vs.toArray)(t:∀h':Heap,(∀b o,s.heap.get? b=some o->h'.get? b=some o)->KatTups h' vs fs)(ia:IntsAre fs kz)(nd:kz.Nodup)(hl:kz.length=vs.length)(h64:vs.length < 64)
  (h:∀p:Array Nat,GoodP vs.length p->Asc (λi=>kz.getD i 0) p vs.length->Q (.ref (s.heap.objs.size + 1)) {s with heap:=sortedAll s.heap vs (List.toArray (p.toList.map λi=>vs.getD i Value.none))}):
  wpAny (model prog w) A (call (.builtin "sorted") [.ref l]) Q E s:=by
 refine Calls.call_function_entry kind_sorted plain_sorted entry_sorted (args_sorted1 _) ?_;unfold Builtin.«sorted»;refine wpAny_bind (m:=checkCount "sorted" 1 1 _) (wpAny_pure ?_);refine wpAny_bind (collect_list hl' ?_ (by rw [sizeLine_eq];omega));refine wpAny_bind (wpAny_newList ?_ (by rw [sizeLine_eq];omega));have hsz:((s.heap.push (seqObj "list" #[] 0)).update s.heap.objs.size (Obj.mapSeq (· ++ vs.toArray))).objs.size=s.heap.objs.size + 1:=by
  rw [Heap.size_update,size_push']
 have hoL:(((s.heap.push (seqObj "list" #[] 0)).update s.heap.objs.size (Obj.mapSeq (· ++ vs.toArray))).push (seqObj "list" vs.toArray 0)).get? (s.heap.objs.size + 1)=some (seqObj "list" vs.toArray 0):=by
  rw [<-hsz];exact Heap.get?_push_size _ rfl
 have keep:∀b o,s.heap.get? b=some o->(((s.heap.push (seqObj "list" #[] 0)).update s.heap.objs.size (Obj.mapSeq (· ++ vs.toArray))).push (seqObj "list" vs.toArray 0)).get? b=some o:=λb o q=>by
  have hlt:b < s.heap.objs.size:=Heap.lt_size q;exact Heap.get?_push_of_some _ (by rw [Heap.get?_update_ne _ _ _ _ (Nat.ne_of_lt hlt)];exact Heap.get?_push_of_some _ q)
 show wpAny _ _ _ _ _ {s with heap:=((s.heap.push (seqObj "list" #[] 0)).update s.heap.objs.size (Obj.mapSeq (· ++ vs.toArray))).push (seqObj "list" vs.toArray 0)};rw [hsz];refine wpAny_bind (wpAny_holding (wpAny_call_entry slot_list_sort ⟨_,hoL,rfl⟩ entry_list_sort (bu_5 hoL (λh' k=>t h' λb o q=>k b o (Nat.ne_of_lt (Nat.lt_succ_of_lt (Heap.lt_size q))) (keep b o q)) ia nd hl h64 λp g as=>⟨_,rfl, ?_⟩) (args_list_sort _)));exact wpAny_pure ⟨_,rfl,h p g as⟩
end
end L3
namespace L3
open PySem PySem.W PySem.Spec PyProof.Rows L2
variable{K:Frag}{fd:FuncData}{mg:Str->Option Value}{us:List Value}{base:Heap}{H:Hp}{X:Cx}{pos:Pos}{v:V}
def n_7:List D->Option (List Int)
 | []=>some []
 | .tup (.int n::_)::ds=>(n_7 ds).map (n:: ·)
 |_=>none
def ba_9:List D->R W
 | [.lst ds]=>(match n_7 ds with
  |some kz=>if kz.length < 64/\kz.Nodup then .ok (.ow (.lst ((u_5 (kz.zip ds)).map (·.2)))) else .no
  |none=> .no)
 |_=> .no
theorem al_0{d:D}{ds:List D}{kz:List Int}(e:n_7 (d::ds)=some kz):∃n tl kz',d=.tup (.int n::tl)/\kz=n::kz'/\n_7 ds=some kz':=by
 unfold n_7 at e
 split at e
 ·rename_i h;cases h
 ·rename_i n tl ds' h;cases h;obtain⟨kz',e1,e2⟩:=Option.map_eq_some_iff.mp e;exact⟨n,tl,kz',rfl,e2.symm,e1⟩
 ·cases e
theorem at_0:∀{ds:List D} {kz:List Int},n_7 ds=some kz->kz.length=ds.length
 | [],kz,e=>by cases e;rfl
 |d::ds,kz,e=>by
  obtain⟨n,tl,kz',rfl,rfl,e'⟩:=al_0 e;rw [List.length_cons,List.length_cons,at_0 e']
section
variable{X:Cx}{zd:List (Addr×Obj)}{σ:Sg}{H:Hp}{s:Shared}
theorem al_1{G:Hp}(I:Inv X zd σ H s)(g:Same G H):∀{vs:List V} {ds:List D} {its:List Value} {kz:List Int},HasL X.K G vs ds->Vals vs its->n_7 ds=some kz->∃fs,IntsAre fs kz/\∀h':Heap,(∀b o,s.heap.get? b=some o->h'.get? b=some o)->KatTups h' its fs
 |_,_,_,kz,.nil,rv,e=>by
  cases rv;cases e;exact⟨[],.nil,λ_ _=>KatTups.nil⟩
 |_,_,_,kz,.cons h r,rv,e=>by
  obtain⟨n,tl,kz',rfl,rfl,e'⟩:=al_0 e;cases rv with
  |cons ru rv=>
   obtain⟨fs,ia,kt⟩:=al_1 I g r rv e';cases h with
   |tup hq rr=>
    cases ru;obtain⟨its',rv',⟨o,ho,hc,m,hd⟩,_⟩:=I.tuple (Same.tupS g hq);cases rr with
    |cons hx _=>
     cases hx;cases rv' with
     |cons rx _=>
      obtain⟨t,rfl⟩:=rx;refine⟨.int n t::fs,.cons n t ia,λh' k=>KatTups.cons (k _ _ ho) hc hd ?_ (kt h' k)⟩;simp
abbrev RelI(ds:List D)(p:Int×Nat)(q:Int×D):Prop:=p.1=q.1/\ds[p.2]? =some q.2
theorem at_1{α β:Type}{R:α->β->Prop}{γ:Type}(f:γ->α):∀{l:List γ} {B:List β},l.length=B.length->(∀(i:Nat) c b,l[i]? =some c->B[i]? =some b->R (f c) b)->Paired R (l.map f) B
 | [],[],_,_=> .nil
 | [],_::_,e,_=>by cases e
 |_::_,[],e,_=>by cases e
 |c::l,b::B,e,h=> .cons (h 0 c b rfl rfl) (at_1 f (by simpa using e) λi c' b' h1 h2=>h (i + 1) c' b' h1 h2)
theorem bb_0{G:Hp}{vs:List V}{ds:List D}(r:HasL K G vs ds):∀{A:List (Int×Nat)} {B:List (Int×D)},Paired (RelI ds) A B->HasL K G (A.map λp=>vs.getD p.2 .non) (B.map (·.2))
 |_,_,.nil=> .nil
 |_,_,.cons h t=>by
  refine .cons ?_ (bb_0 r t);obtain⟨v,e,hv⟩:=r.get h.2;show Has K G (vs.getD _ .non) _;rw [List.getD_eq_getElem?_getD,e];exact hv
theorem ca_8{vs:List V}{its:List Value}(rv:Vals vs its):∀{l:List Nat},(∀i∈l,i < vs.length)->Vals (l.map λi=>vs.getD i .non) (l.map λi=>its.getD i Value.none)
 | [],_=> .nil
 |i::l,h=>by
  refine .cons ?_ (ca_8 rv λj hj=>h j (List.mem_cons_of_mem _ hj));have hi:=h i List.mem_cons_self;obtain⟨u,e,ru⟩:=rv.get (List.getElem?_eq_getElem hi);show RelV (vs.getD i .non) (its.getD i Value.none);rw [List.getD_eq_getElem?_getD,List.getD_eq_getElem?_getD,e,List.getElem?_eq_getElem hi];exact ru
theorem bu_6(_hc:X.calm=true):x_0 X (.builtin "sorted") ba_9:=by
 intro zd s σ H vs us Q I rv q;obtain⟨EX,G,ds,g,r,o⟩:=q;cases r with
 |nil=>exact False.elim o
 |cons h t=>
  cases t with
  |cons _ _=>cases h <;> exact False.elim o
  |nil=>
   cases h with
   |lst h r=>
    rename_i l xs ds;simp only [ba_9] at o
    split at o
    ·rename_i kz e
     split at o
     ·rename_i hl;obtain⟨h64,nd⟩:=hl;obtain⟨u,rfl,ru⟩:=rv.one;cases ru;obtain⟨its,rv',pl,hz⟩:=I.list (g.seq h);obtain⟨fs,ia,kt⟩:=al_1 I g r rv' e;have kl:=at_0 e;have il:xs.length=its.length:=rv'.length;have dl:xs.length=ds.length:=r.length;refine bo_2 pl.isList kt ia nd (by omega) (by omega) λp gp as=> ?_;have pl:∀i∈p.toList,i < its.length:=λi hi=>List.mem_range.mp (gp.perm.mem_iff.mp hi);have A0:Paired (RelI ds) ((List.range its.length).map λi=>(kz.getD i 0,i)) (kz.zip ds):=by
       refine at_1 _ (by rw [List.length_range,List.length_zip];omega) λi c b h1 h2=> ?_;obtain⟨hi,rfl⟩:i < its.length/\c=i:=by
        have:=List.getElem?_eq_some_iff.mp h1;obtain⟨hi,e⟩:=this;rw [List.getElem_range] at e;exact⟨by simpa using hi,e.symm⟩
       obtain⟨hz1,e2⟩:=List.getElem?_eq_some_iff.mp h2;rw [List.getElem_zip] at e2;subst e2;refine⟨?_,List.getElem?_eq_getElem _⟩;show kz.getD c 0=kz[c];simp [show c < kz.length by omega]
      have pA:(p.toList.map λi=>(kz.getD i 0,i)).Pairwise (λa b:Int×Nat=>a.1<=b.1):=by
       rw [List.pairwise_map];refine List.pairwise_iff_getElem.mpr λi j hi hj hij=> ?_;have hi':i < p.size:=by simpa using hi
       have hj':j < p.size:=by simpa using hj
       have:=as i j hij (by rw [<-gp.size];exact hj');have e1:p.getD i 0=p.toList[i]:=by simp [Array.getD,hi']
       have e2:p.getD j 0=p.toList[j]:=by simp [Array.getD,hj']
       unfold kp at this;rw [e1,e2] at this;exact Int.le_of_lt this
      have zn:((kz.zip ds).map (·.1))=kz:=by rw [List.map_fst_zip (by omega)]
      have pr:=y_5 (R:=RelI ds) (λp q r=>r.1) A0 (gp.perm.map _) (v_9 (kz.zip ds)) (by rw [zn];exact nd) pA (w_0 _);have hu:=bb_0 r pr;rw [List.map_map] at hu;obtain⟨c,hat⟩:=sortedAll_at s.heap its (List.toArray (p.toList.map λi=>its.getD i Value.none));have rv2:Vals (p.toList.map λi=>xs.getD i .non) (p.toList.map λi=>its.getD i Value.none):=ca_8 rv' λi hi=>by have:=pl i hi;omega
      have fr:=I.hok.fresh (Nat.le_succ s.heap.objs.size);refine⟨.ref _,upd H _ (.lst _),I.laid (t':=s.toks) (λ_ _=>sortedAll_old) (Nat.le_succ _) ⟨?_,_,c,rv2,by simpa using hat⟩,rfl,v_1 o g hu _ fr⟩;rw [List.length_map,Array.length_toList,gp.size,sizeLine_eq];omega
     ·exact o.elim
    ·exact o.elim
   |_=>exact False.elim o
end
end L3
namespace L3
open PySem PySem.Spec PyProof.Rows L2
variable{K:Frag}{fd:FuncData}{mg:Str->Option Value}{us:List Value}{base:Heap}{H:Hp}{X:Cx}{pos:Pos}{v:V}
mutual
def Do:D->Bool
 | .non=>true
 | .bl _=>true
 | .int _=>true
 | .str _=>true
 | .tup ds=>Dx ds
 |_=>false
def Dx:List D->Bool
 | []=>true
 |d::ds=>Do d && Dx ds
end
section
variable{K:Frag}{G:Hp}{S:AS}
theorem dc_6(hs:∀b o,S b->G b=some o->∃xs,o=.lst xs){a:Addr}{xs:List V}(h:Rd G a (.tup xs)):Rd (offQ G S) a (.tup xs):=by
 rcases h with h|⟨o,h⟩
 ·exact .inl ((r_1 λz=>by obtain⟨ys,e⟩:=hs a _ z h;cases e).trans h)
 ·exact .inr ⟨o,(r_1 λz=>by obtain⟨ys,e⟩:=hs a _ z h;cases e).trans h⟩
mutual
theorem Has.offL(hs:∀b o,S b->G b=some o->∃xs,o=.lst xs):∀{v:V} {d:D},Has K G v d->Do d=true->Has K (L3.offQ G S) v d
 |_,_,.non,_=> .non
 |_,_,.bl b,_=> .bl b
 |_,_,.int i,_=> .int i
 |_,_,.str x,_=> .str x
 |_,_,.lst _ _,e=>by simp only [Do] at e;cases e
 |_,_,.tup h r,e=>by
  simp only [Do] at e;exact .tup (h.elim (λz=> .inl (dc_6 hs z)) .inr) (HasL.offL hs r e)
 |_,_,.exn0 _ _,e=>by simp only [Do] at e;cases e
 |_,_,.exn1 _ _ _ _ _,e=>by simp only [Do] at e;cases e
 |_,_,.dic _ _ _,e=>by simp only [Do] at e;cases e
 |_,_,.obj _ _ _ _,e=>by simp only [Do] at e;cases e
theorem HasL.offL(hs:∀b o,S b->G b=some o->∃xs,o=.lst xs):∀{vs:List V} {ds:List D},HasL K G vs ds->Dx ds=true->HasL K (L3.offQ G S) vs ds
 |_,_,.nil,_=> .nil
 |_,_,.cons h r,e=>by
  simp only [Dx,Bool.and_eq_true] at e;exact .cons (Has.offL hs h e.1) (HasL.offL hs r e.2)
end
end
def at_2(i:Nat):SE->FM:=λ Δ=>match Δ[i]? with
 |some (.ow (.lst ds))=>if Dx ds=true then .ok (.lst ds) Δ else .no
 |_=> .no
def bo_3(g g2:SE->FM):SE->FM:=λ Δ=>match g Δ with
 | .ok d1 Δ1=>(match g2 Δ1 with
  | .ok d2 Δ2=> .ok (.lst [d1,d2]) Δ2
  |_=> .no)
 |_=> .no
def bg_2(i:Nat):FS:=λ Δ=>match Δ[i]? with
 |some (.ow (.lst _))=> .nx (Δ.set i (.ow (.lst [])))
 |_=> .no
section
variable{X:Cx}{EX:Ay}{e e1 e2:Expr}{g g2:SE->FM}{pos:Pos}
theorem ca_9{i:Nat}(he:ED X EX e (Aq ar_0 (Ab (Aa i) Ac))):EM X EX e (at_2 i):=PE.imp he λ σ H Q ⟨H0,G0,G,Δ,O,E,q⟩=>by
 unfold at_2 at q
 split at q
 ·rename_i ds ei
  split at q
  ·rename_i ht;obtain⟨v0,s1,t⟩:=E.ow i _ _ ei rfl;obtain⟨a,vs,rfl,m,hH,rl⟩:=t.list_of;have hGa:=(E.out i a m).1;have gH:Same (upd G a (.lst vs)) H:=λb o q=>by
    by_cases z:b=a
    ·subst z;rw [Ba] at q;cases q;exact hH
    ·rw [An z] at q;exact E.st.gh b o q
   have hil:i < Δ.length:=by
    rcases Nat.lt_or_ge i Δ.length with h|h
    ·exact h
    ·rw [List.getElem?_eq_none h] at ei;cases ei
   have sG:=g_4 hGa (.lst vs);refine⟨upd G a (.lst vs),(As Δ).set i (some (.lst ds)),gH,⟨?_,λj d qj=> ?_⟩, ?_⟩
   ·rw [List.length_set];exact E.gsh.len
   ·by_cases z:i=j
    ·subst z;rw [List.getElem?_set_self (by unfold As;rw [List.length_map];exact hil)] at qj;cases qj;exact⟨.ref a,s1,.lst (SqL.of Ba) (rl.mono sG)⟩
    ·rw [List.getElem?_set_ne z] at qj;obtain⟨v,e1,r⟩:=E.gsh.get j d qj;exact⟨v,e1,r.mono sG⟩
   ·have ev:Aq ar_0 (Ab (Aa i) Ac) ((As Δ).set i (some (.lst ds)))=.ok (.ow (.lst ds)):=by
     have:Aa i ((As Δ).set i (some (.lst ds)))=.ok (.sh (.lst ds)):=by
      unfold Aa;rw [List.getElem?_set_self (by unfold As;rw [List.length_map];exact hil)]
     simp only [Aq,Ab,Ac,this,R.bind_ok,W.d_sh];rfl
    rw [ev];intro v S G2 H2 st fr t2;obtain⟨p,vs2,rfl,hp,hp2,rl2⟩:=t2.list_of;obtain⟨f1,f2,f3⟩:=fr p hp;have ga2:G2 a=some (.lst vs):=st.gg _ _ Ba;have hs:∀b o,(λb=>b=a) b->G2 b=some o->∃xs,o=.lst xs:=λb o z q=>by
     subst z;rw [ga2] at q;cases q;exact⟨_,rfl⟩
    have np:p≠a:=λz=>by rw [z,hH] at f1;cases f1
    have op:offQ G2 (λb=>b=a) p=none:=offQ_sub.free f2;have s3:=g_4 op (.lst vs2);have stp:Step G H (upd (offQ G2 λb=>b=a) p (.lst vs2)) H2:=by
     refine⟨st.hh,λb o q=> ?_,λb o q=> ?_,λb n z=> ?_⟩
     ·by_cases y:b=p
      ·subst y;rw [Ba] at q;cases q;exact hp2
      ·rw [An y] at q;exact st.gh b o (offQ_sub b o q)
     ·refine s3 b o ?_;have ne:b≠a:=λz=>by subst z;rw [hGa] at q;cases q
      rw [r_1 (S:=λb=>b=a) (b:=b) ne];exact st.gg b o (sG b o q)
     ·have nb:b≠p:=λy=>z (by rw [y];exact f1);rw [An nb]
      by_cases y:b=a
      ·exact ao_8 (S:=λb=>b=a) y
      ·exact offQ_sub.free (st.nw b (by rw [An y];exact n) z)
    exact q (.ref p) _ H2 O (E.grow stp) stp.gg (.lst (SqL.of Ba) ((rl2.offL hs ht).mono s3))
  ·exact q.elim
 ·exact q.elim
theorem dc_7(h1:EM X EX e1 g)(h2:EM X EX e2 g2)(hs1:starEach [e1,e2] X.env=(false,eval e1 X.env)::starEach [e2] X.env:=by rfl)(hs2:starEach [e2] X.env=(false,eval e2 X.env)::starEach [] X.env:=by rfl):EM X EX (.List [e1,e2] pos) (bo_3 g g2):=
 PE.imp (bd_0 (i_7 h1 (i_7 h2 o_9 hs2) hs1)) λ σ H Q ⟨H0,G0,G,Δ,O,E,q⟩=>by
  refine⟨H0,G0,G,Δ,O,E, ?_⟩;unfold bo_3 at q;cases e1:g Δ with
  |ok d1 Δ1=>
   simp only [e1] at q;intro v1 G1 H1 O1 E1 s1 r1;refine⟨H0,G0,G1,Δ1,O1,E1, ?_⟩;cases e2:g2 Δ1 with
   |ok d2 Δ2=>
    simp only [e2] at q;intro v2 G2 H2 O2 E2 s2 r2;refine⟨by show 2<=sizeLine;decide,λp hp=> ?_⟩;have st:=Step.new E2.st.gh hp (.lst [v1,v2]);exact q (.ref p) _ _ O2 (E2.grow st) ((s1.trans s2).trans st.gg) (.lst (SqL.of Ba) (.cons (r1.mono (s2.trans st.gg)) (.cons (r2.mono st.gg) .nil)))
   |ex x Δ2=>simp only [e2] at q;exact q.elim
   |no=>simp only [e2] at q;exact q.elim
  |ex x Δ1=>simp only [e1] at q;exact q.elim
  |no=>simp only [e1] at q;exact q.elim
theorem cr_4{j:Nat}{y:Str}{p1 zg zf:Pos}(hj:X.N[j]? =some y:=by rfl)(hv:Fu X.env.scope y:=by first|exact Or.inl rfl|exact Or.inr (Or.inl rfl)|exact Or.inr (Or.inr rfl))(hd:(y ==("__debug__" :Str))=false:=by decide)
  (hcd:(y ==("__classdict__" :Str))=false:=by decide) (hs:swapsWith (.Call (.Attribute (.Name y p1) "clear" zg) [] [] zf) none pos.line X.env=pure false:=by rfl)
  (af:attributeBase (.Name y p1) "clear" X.env (eval (.Name y p1) X.env)=eval (.Name y p1) X.env:=by rfl) (ag:(zg.endLine ==zf.line)=true:=by rfl):
  SD X EX (.Expr (.Call (.Attribute (.Name y p1) "clear" zg) [] [] zf) pos) (bg_2 j):=
 PS.imp (u_8 (dj_2 PySem.F.plainAttrs_list PySem.F.slot_list_clear PySem.F.type_list_clear ck_7 (Ft hj hv hd hcd) af ag) hs) λD σ H ⟨H0,G0,G,Δ,O,E,q⟩=>by
  unfold bg_2 at q
  split at q
  ·rename_i ds e1;obtain⟨v0,s1,t⟩:=E.ow j _ _ e1 rfl;obtain⟨a,vs,rfl,m,hH,rl⟩:=t.list_of;exact⟨.ref a,s1,.inl ⟨rfl,_,SqL.of hH⟩,a,vs,rfl,rfl,hH,q _ G _ _ (E.writeL s1 m .nil) (Same.refl _)⟩
  ·exact q.elim
end
end L3
namespace My
open PySem L2 L3
def bb_1:FS:=
  (Ag (Al 2 [0,1] (Ae Bt (Ae Dd (Ae Bp (Aa 0) (eC (.int 1))) (Ae Bp (eC (.int 48271)) (Ae Dd (eC (.int 118)) (Aa 1)))) (eC (.int 2147483629))))
  (At [1,2] (Ae Bt (Ae Bp (Ae Bp (Ae Dd (Ae Fx (Aa 2) (eC (.int 977))) (eC (.int 16807))) (Ae Dd (Aa 2) (Ae Bp (Ae Dd (Aa 1) (Aa 1)) (eC (.int 7))))) (Aa 1)) (eC (.int 2147483587)))))
def h_0:List D->R W:=Ap 3 bb_1
def at_3:FS:=
  (Ag (Al 2 [] (eC (.int 0)))
  (Ag (Bu [0,1] (Ak (Ae ltD (Aa 1) (Aq Dp (Ab (Aa 0) Ac))))
   (Al 2 [0,1] (Ae Bt (Ae Be (Aa 0) (Aa 1)) (eC (.int 2147483647))))
   Az)
  (At [1,2] (Bj 2 h_0 (Ab (Aa 2) (Ab (Ae Bp (Aa 1) (eC (.int 101))) Ac))))))
def h_3:List D->R W:=Ap 3 at_3
def al_2:FS:=
  (Ag (Al 2 [0] (Bj 2 h_3 (Ab (Aa 0) (Ab (eC (.int 1)) Ac))))
  (Ag (Al 3 [1,2] (Ae Bp (eC (.int 1)) (Ae Bt (Aa 2) (Aa 1))))
  (Ag (Al 4 [2] (Ae Be (Dq (Ab (eC (.int 0)) (Ab (eC (.int 1)) (Ab (Ae Bt (Ae Fx (Aa 2) (eC (.int 64))) (eC (.int 1000))) (Ab (Ae Bp (Ae powD (eC (.int 10)) (eC (.int 12))) (Aa 2)) Ac))))) (Ae Bt (Ae Fx (Aa 2) (eC (.int 32))) (eC (.int 4)))))
  (Ag (Al 5 [2] (Bj 2 h_0 (Ab (Aa 2) (Ab (eC (.int 5)) Ac))))
  (Ag (Al 6 [5] (Ae Be (Dq (Ab (eC (.int 2)) (Ab (eC (.int 3)) (Ab (Ae Bp (eC (.int 2)) (Ae Bt (Ae Fx (Aa 5) (eC (.int 8))) (eC (.int 9)))) (Ab (eC (.int 10)) (Ab (eC (.int 1000)) (Ab (eC (.int 1000000000)) (Ab (Ae Bp (eC (.int 2)) (Ae Bt (Ae Fx (Aa 5) (eC (.int 8))) (eC (.int 999999999)))) (Ab (eC (.int 7)) Ac))))))))) (Ae Bt (Aa 5) (eC (.int 8)))))
  (At [3,4,6] (Cg (Ab (Aa 3) (Ab (Aa 4) (Ab (Aa 6) Ac))))))))))
def o_4:List D->R W:=Ap 7 al_2
def al_3:FS:=
  (At [0] (eAnd (eIs "int" (Aa 0)) (eNot (eIs "bool" (Aa 0)))))
def k_0:List D->R W:=Ap 1 al_3
def y_6:FS:=
  (At [0] (Aq ar_0 (Ab (Co ["Living"] "listed" (Aa 0)) Ac)))
def b_7:List D->R W:=Ap 1 y_6
def h_7:FT:=
  (Fj (Bm (Ax (Bj 1 k_0 (Ab (Aa 3) Ac)))) (Bm (Ak (q_5 leD ltD (eC (.int 0)) (Aa 3) (Ae Be (Aa 1) (eC (.int 2)))))))
def s_9:FS:=
  (Ag (Al 2 [0] (By "table" 0 [("Living",b_7)] (Aa 0) Ac))
  (Ag (Bu [1,2] (Fj (Bm (Ax (eIs "list" (Aa 2)))) (Ak (Ae Cn (Aq Dp (Ab (Aa 2) Ac)) (Ae Dd (eC (.int 2)) (Ae Be (Aa 1) (eC (.int 0)))))))
   (At [] (eC (.bl false)))
   Az)
  (At [1,2] (Ae Ec (Cc 1 (Es (Aa 2)) (gC 3) h_7 (Aa 3)) (Dq Ac)))))
def f_1:List D->R W:=Ap 3 s_9
def t_5:FS:=
  (Al 1 [1,2] (Ae Bp (Ae Bp (Ae Dd (eC (.int 40)) (Aa 1)) (eC (.int 1))) (eMeth "str" ai_3 (eC (.str "abcdefghijklmnopqrstuvwxyz0123456789-_ ")) (Ab (Aa 2) Ac))))
def y_7:FS:=
  (Ag (Bu [0] (Ax (eIs "int" (Aa 0)))
   (At [0] (Ae Dd (eC (.int 2)) (Aa 0)))
   Az)
  (Ag (Al 1 [] (eC (.int 0)))
  (Ag (Du [0] (Es (Aa 0)) (gV 2) t_5)
  (At [1] (Ae Bp (Ae Dd (eC (.int 2)) (Aa 1)) (eC (.int 1)))))))
def k_1:List D->R W:=Ap 3 y_7
def al_4:FS:=
  (Ag (Al 3 [] (eC (.int 2305843009213693951)))
  (Ag (Al 4 [1,3] (Ae Bp (eC (.int 1)) (Ae Bt (Ae Bp (Ae Dd (eC (.int 1103515245)) (Aa 1)) (eC (.int 12345))) (Ae Ex (Aa 3) (eC (.int 1))))))
  (Ag (Al 5 [0,1,3,4] (Ae Bt (Ae Bp (Ae Dd (Aa 4) (Aa 0)) (Ae Bt (Ae Bp (Ae Dd (Ae Dd (eC (.int 69069)) (Aa 1)) (Aa 1)) (Ae Dd (eC (.int 7)) (Aa 1))) (Aa 3))) (Aa 3)))
  (At [2,5] (Ae Bt (Ae Bp (Aa 5) (Ae Fx (Aa 5) (eC (.int 2147483648)))) (Aa 2))))))
def m_4:List D->R W:=Ap 6 al_4
def af_7:FS:=
  (Ag (sUnp (ba_3 [3,4,5]) [1] (Aa 1))
  (Ag (Al 2 [0] (Bj 1 k_1 (Ab (Aa 0) Ac)))
  (At [2,3,4] (Cg (Ab (Bj 3 m_4 (Ab (Aa 2) (Ab (Ae Dd (eC (.int 4)) (Aa 4)) (Ab (Aa 3) Ac)))) (Ab (Ae Bp (Aa 3) (Bj 3 m_4 (Ab (Aa 2) (Ab (Ae Bp (Ae Dd (eC (.int 4)) (Aa 4)) (eC (.int 1))) (Ab (Aa 3) Ac))))) Ac))))))
def j_3:List D->R W:=Ap 6 af_7
def l_7:FE:=
  (Ae (inD false) (Aa 1) (eC (.str "abcdefghijklmnopqrstuvwxyz0123456789-_ ")))
def ab_8:FS:=
  (At [0] (eAnd (Ae leD (Aq Dp (Ab (Aa 0) Ac)) (eC (.int 11))) (Aq allD (Ab (Cc 1 (Es (Aa 0)) (gC 1) (λ_=> .ok true) l_7) Ac))))
def l_3:List D->R W:=Ap 1 ab_8
def at_4:FS:=
  (Ag (Bu [0] (Ax (eIs "bool" (Aa 0)))
   (At [] (eC (.bl false)))
   Az)
  (Ag (Bu [0] (Ax (eIs "int" (Aa 0)))
   (At [0] (q_5 leD leD (eC (.int 0)) (Aa 0) (eC (.int 999999999999999999))))
   Az)
  (At [0] (eAnd (eIs "str" (Aa 0)) (Bj 1 l_3 (Ab (Aa 0) Ac))))))
def u_6:List D->R W:=Ap 1 at_4
def aj_3:FS:=
  (Al 1 [1,2] (Ae Bp (Ae Bp (Ae Dd (eC (.int 40)) (Aa 1)) (eMeth "str" bk_2 (eC (.str "abcdefghijklmnopqrstuvwxyz0123456789-_ ")) (Ab (Aa 2) Ac))) (eC (.int 1))))
def cb_0:FS:=
  (Ag (Al 1 [] (eC (.int 0)))
  (Ag (Du [0] (Es (Aa 0)) (gV 2) aj_3)
  (Cl 1)))
def af_8:List D->R W:=Ap 3 cb_0
def bg_3:FS:=
  (Ag (Bu [0] (Bm (Ax (Bj 1 u_6 (Ab (Aa 0) Ac))))
   (ac_9 "NoKey" "at" [] (eC (.int 0)))
   Az)
  (Ag (Bu [0] (Ax (eIs "str" (Aa 0)))
   (At [0] (Ae Bp (Ae Dd (eC (.int 2)) (Bj 1 af_8 (Ab (Aa 0) Ac))) (eC (.int 1))))
   Az)
  (At [0] (Ae Dd (eC (.int 2)) (Aa 0)))))
def k_8:List D->R W:=Ap 1 bg_3
def cb_1:FS:=
  (Ag (Bu [2] (Ak (Ae Ec (Aa 2) (eC (.int 0))))
   (At [] (eC (.int 0)))
   Az)
  (Ag (Al 3 [1] (Ae Bp (eC (.int 1)) (Ae Bt (Ae Bp (Ae Dd (eC (.int 1103515245)) (Aa 1)) (eC (.int 12345))) (Ae Ex (eC (.int 2305843009213693951)) (eC (.int 1))))))
  (Ag (Al 4 [1] (Ae Bt (Ae Bp (Ae Dd (Ae Dd (eC (.int 69069)) (Aa 1)) (Aa 1)) (Ae Dd (eC (.int 7)) (Aa 1))) (eC (.int 2305843009213693951))))
  (Ag (Al 5 [0,3,4] (Ae Bt (Ae Bp (Ae Dd (Aa 3) (Aa 0)) (Aa 4)) (eC (.int 2305843009213693951))))
  (At [2,5] (Ae Bt (Ae Bp (Aa 5) (Ae Fx (Aa 5) (eC (.int 2147483648)))) (Aa 2)))))))
def af_9:List D->R W:=Ap 6 cb_1
def n_8:FE:=
  (Ae Bp (Ae Dd (Aa 5) (Aa 3)) (Bj 3 af_9 (Ab (Aa 4) (Ab (Ae Bp (Ae Dd (eC (.int 4)) (Aa 1)) (Aa 5)) (Ab (Aa 3) Ac)))))
def al_5:FS:=
  (Ag (Al 4 [0] (Bj 1 k_8 (Ab (Aa 0) Ac)))
  (At [1,2,3,4] (Aq cm_2 (Ab (Cc 1 (Ew rng1 (Ab (Aa 2) Ac)) (gC 5) (λ_=> .ok true) n_8) Ac))))
def o_5:List D->R W:=Ap 5 al_5
def w_8:FS:=
  (At [0,1] (Bj 4 o_5 (Ab (Aa 1) (Ab (Co ["Living"] "by_salt" (Aa 0)) (Ab (eC (.int 2)) (Ab (Co ["Living"] "part" (Aa 0)) Ac))))))
def b_5:List D->R W:=Ap 2 w_8
def w_1:FS:=
  (At [0,1] (eAnd (eNot (eIs "bool" (Aa 0))) (q_5 leD ltD (eC (.int 0)) (Aa 0) (Aa 1))))
def h_4:List D->R W:=Ap 2 w_1
def al_6:FS:=
  (At [0,1] (eIf (Ak (Ae Ec (Aa 1) (eC (.int 0)))) (eC (.int 0)) (Ae Bt (Aa 0) (Aa 1))))
def m_5:List D->R W:=Ap 2 al_6
def r_6:FE:=
  (Ae Be (Aa 0) (Aa 4))
def r_7:FT:=
  (Ax (Bj 2 h_4 (Ab (Aa 4) (Ab (Aq Dp (Ab (Aa 0) Ac)) Ac))))
def bo_4:FS:=
  (Ag (Al 3 [0,1] (Cc 1 (Es (Aa 1)) (gC 4) r_7 r_6))
  (At [2,3] (Bj 2 m_5 (Ab (Aq sumD (Ab (Aa 3) Ac)) (Ab (Aa 2) Ac)))))
def y_8:List D->R W:=Ap 4 bo_4
def y_9:FS:=
  (At [0,1] (Bj 3 y_8 (Ab (Co ["Living"] "listed" (Aa 0)) (Ab (By "places" 1 [("Living",b_5)] (Aa 0) (Ab (Aa 1) Ac)) (Ab (Co ["Living"] "modulus" (Aa 0)) Ac)))))
def c_6:List D->R W:=Ap 2 y_9
def al_7:FS:=
  (Ag (sUnp (gP 6 7) [1,2] (Bj 2 j_3 (Ab (Aa 2) (Ab (Aa 1) Ac))))
  (Ag (Al 4 [0,2] (By "places" 1 [("Living",b_5)] (Aa 0) (Ab (Aa 2) Ac)))
  (Ag (Bu [4,6,7] (Fj (Bm (Ax (eIs "tuple" (Aa 4)))) (Fj (Ak (Ae Cn (Aa 4) (Cg (Ab (Aa 6) (Ab (Aa 7) Ac))))) (Ax (eIs "bool" (Ae Be (Aa 4) (eC (.int 0)))))))
   (At [] (eC .non))
   Az)
  (Ag (Al 5 [0,2] (By "value" 1 [("Living",c_6)] (Aa 0) (Ab (Aa 2) Ac)))
  (Ag (Bu [1,3,5,6,7] (Fj (Bm (Ax (Bj 1 k_0 (Ab (Aa 5) Ac)))) (Ak (Ae Cn (Aa 5) (Ae Bt (Ae Bp (Ae Be (Aa 3) (Aa 6)) (Ae Be (Aa 3) (Aa 7))) (Ae Be (Aa 1) (eC (.int 2)))))))
   (At [] (eC .non))
   Az)
  (Cl 5))))))
def k_2:List D->R W:=Ap 8 al_7
def l_8:FE:=
  (Cg (Ab (Aa 1) (Ab (Ae getK (Co ["Living"] "by_key" (Aa 0)) (Aa 1)) Ac)))
def ab_9:FS:=
  (At [0] (Cc 1 (Es (as_4 k_8 (Co ["Living"] "by_key" (Aa 0)))) (gC 1) (λ_=> .ok true) l_8))
def c_4:List D->R W:=Ap 1 ab_9
def l_4:FS:=
  (Bu [0,2,4,6,7] (Ak (Ae Cn (Bj 4 k_2 (Ab (Aa 0) (Ab (Aa 2) (Ab (Aa 6) (Ab (Aa 4) Ac))))) (Aa 7)))
   (At [] (eC (.bl false)))
   Az)
def j_6:FE:=
  (Cg (Ab (Bj 1 k_1 (Ab (Aa 8) Ac)) (Ab (Aa 8) (Ab (Aa 9) Ac))))
def l_5:FE:=
  (Cg (Ab (Aa 9) (Ab (Aa 10) Ac)))
def al_8:FS:=
  (Ag (Bu [0,2] (Bm (Ax (Bj 2 f_1 (Ab (Aa 0) (Ab (Aa 2) Ac)))))
   (At [] (eC (.bl false)))
   Az)
  (Ag (Al 4 [0] (By "table" 0 [("Living",b_7)] (Aa 0) Ac))
  (Ag (bo_1 [1] (Aa 1) (gV2 6 7) l_4)
  (Ag (Al 5 [1] (Aq ba_9 (Ab (Cc 2 (Ep (Aa 1)) (gC2 8 9) (λ_=> .ok true) j_6) Ac)))
  (Ag (Bu [0,5] (Ak (Ae Cn (By "kept" 0 [("Living",c_4)] (Aa 0) Ac) (Cc 3 (Es (Aa 5)) (gC3 8 9 10) (λ_=> .ok true) l_5)))
   (At [] (eC (.bl false)))
   Az)
  (At [0,2,3,4] (eAnd (Ae (isND true) (Bj 4 k_2 (Ab (Aa 0) (Ab (Aa 2) (Ab (Aa 3) (Ab (Aa 4) Ac))))) (eC .non)) (Ae Ec (By "table" 0 [("Living",b_7)] (Aa 0) Ac) (Aa 4)))))))))
def i_6:List D->R W:=Ap 8 al_8
def at_5:FS:=
  (Ag (Al 3 [0,1] (Aq maxD (Ab (eC (.int 0)) (Ab (Ae Ex (Aq Dp (Ab (Aa 0) Ac)) (Aa 1)) Ac))))
  (At [0,1,2,3] (Aq minD (Ab (Aa 2) (Ab (Aq maxD (Ab (Aa 3) (Ab (Ae Bt (Bj 2 h_3 (Ab (Aa 0) (Ab (Ae Ex (Aa 1) (eC (.int 1))) Ac))) (Ae Bp (Aa 2) (eC (.int 1)))) Ac))) Ac)))))
def n_5:List D->R W:=Ap 4 at_5
def aj_4:FS:=
  (Ag (Al 2 [] (eC (.int 0)))
  (Ag (Bu [0,1] (Ak (Ae ltD (Aa 1) (Aq Dp (Ab (Aa 0) Ac))))
   (Al 2 [0,1] (Ae Be (Aa 0) (Aa 1)))
   Az)
  (Ag (Bu [0] (Ak (Ae Ec (Ae Bt (Bj 2 h_3 (Ab (Aa 0) (Ab (eC (.int 0)) Ac))) (eC (.int 2))) (eC (.int 0))))
   (Cl 2)
   Az)
  (At [1,2] (Bj 2 h_0 (Ab (Bj 2 h_0 (Ab (Ae Bt (Aa 2) (eC (.int 2147483647))) (Ab (Ae Bp (Aa 1) (eC (.int 7))) Ac))) (Ab (Aa 1) Ac)))))))
def n_6:List D->R W:=Ap 3 aj_4
def w_2:FS:=
  (Ag (Al 1 [1,2] (Ae Bp (Aa 1) (Ae Be (eC (.str "abcdefghijklmnopqrstuvwxyz0123456789-_ ")) (Ae Bt (Aa 2) (eC (.int 39))))))
  (Al 2 [2] (Ae Fx (Aa 2) (eC (.int 39)))))
def at_6:FS:=
  (Ag (Al 1 [] (eC (.str "")))
  (Ag (Al 2 [0] (Ae Fx (Aa 0) (eC (.int 12))))
  (Ag (Du [0] (Ew rng1 (Ab (Ae Bt (Aa 0) (eC (.int 12))) Ac)) (gV 3) w_2)
  (Cl 1))))
def r_8:List D->R W:=Ap 4 at_6
def u_7:FS:=
  (Ag (Al 1 [0] (Ae Fx (Aa 0) (eC (.int 4))))
  (Ag (Bu [0] (Ak (Ae Ec (Ae Bt (Aa 0) (eC (.int 4))) (eC (.int 0))))
   (At [1] (Ae Bt (Aa 1) (Ae powD (eC (.int 10)) (eC (.int 18)))))
   Az)
  (Ag (Bu [0] (Ak (Ae Ec (Ae Bt (Aa 0) (eC (.int 4))) (eC (.int 1))))
   (At [1] (Bj 1 r_8 (Ab (Aa 1) Ac)))
   Az)
  (At [0,1] (Ae Bt (Aa 1) (Ae Be (Dq (Ab (eC (.int 50)) (Ab (eC (.int 12)) Ac))) (Ae Ex (Ae Bt (Aa 0) (eC (.int 4))) (eC (.int 2)))))))))
def i_3:List D->R W:=Ap 2 u_7
def at_7:FS:=
  (Ag (Al 5 [0,1,2] (Bj 2 n_6 (Ab (Aa 0) (Ab (Ae Bp (Aa 1) (Ae Bt (Aa 2) (Aq maxD (Ab (eC (.int 1)) (Ab (Ae Ex (Aq Dp (Ab (Aa 0) Ac)) (Aa 1)) Ac))))) Ac))))
  (Ag (Bu [0] (Ak (Ae Ec (Ae Bt (Bj 2 h_3 (Ab (Aa 0) (Ab (eC (.int 0)) Ac))) (eC (.int 2))) (eC (.int 1))))
   (Al 5 [2,5] (Bj 2 h_0 (Ab (Ae Bt (Aa 5) (eC (.int 2147483647))) (Ab (Aa 2) Ac))))
   Az)
  (Ag (Al 6 [5] (Ae Bt (Aa 5) (eC (.int 8))))
  (Ag (Al 7 [5] (Ae Fx (Aa 5) (eC (.int 8))))
  (Ag (Al 8 [4,7] (Ae Bt (Aa 7) (Ae Be (Aa 4) (eC (.int 2)))))
  (Ag (Al 9 [4,7] (Bj 1 i_3 (Ab (Ae Fx (Aa 7) (Ae Be (Aa 4) (eC (.int 2)))) Ac)))
  (Ag (Bu [3,6] (Cp (Ak (Ae gtD (Aa 6) (eC (.int 4)))) (Ak (Ae bn_8 (Aa 3) ae_9)))
   (Al 9 [3,4,7] (Ae Be (eKL (Aa 3)) (Ae Bt (Ae Fx (Aa 7) (Ae Be (Aa 4) (eC (.int 2)))) (Aq De (Ab (Aa 3) Ac)))))
   Az)
  (At [6,8,9] (Cg (Ab (Ae Be (Dq (Ab (eC (.int 0)) (Ab (eC (.int 0)) (Ab (eC (.int 0)) (Ab (eC (.int 0)) (Ab (eC (.int 0)) (Ab (eC (.int 0)) (Ab (eC (.int 1)) (Ab (eC (.int 1)) Ac))))))))) (Aa 6)) (Ab (Aa 9) (Ab (Aa 8) Ac))))))))))))
def k_3:List D->R W:=Ap 10 at_7
def ac_0:FS:=
  (Ag (Al 1 [0] (By "table" 0 [("Living",b_7)] (Aa 0) Ac))
  (Ag (Al 2 [0] (By "kept" 0 [("Living",c_4)] (Aa 0) Ac))
  (Ag (m_9 3 (bo_3 (at_2 1) (at_2 2)))
  (Ag (bg_2 1)
  (Ag (sApp 2 (Cg (Ab (eC (.int 7)) (Ab (eC (.int 0)) Ac))))
  (At [0,3] (Ae Ec (Dq (Ab (By "table" 0 [("Living",b_7)] (Aa 0) Ac) (Ab (By "kept" 0 [("Living",c_4)] (Aa 0) Ac) Ac))) (Aa 3))))))))
def n_9:List D->R W:=Ap 4 ac_0
def d_7:FS:=
  (Bu [2,6] (Ak (Ae (Eg true) (Aa 6) (Aa 2)))
   (Ag (Fh 2 [4,5] (Aa 6) (Cg (Ab (Aa 5) (Ab (Aa 4) Ac))))
  (sApp 3 (Aa 6)))
   Az)
def p_7:FT:=
  (Ak (Ae gtD (Aq Dp (Ab (Aa 3) Ac)) (eC (.int 0))))
def p_8:FS:=
  (Ag (bn_9 4 3 (eC (.int 0)))
  (Du [1,4] (Es (bk_5 (Aa 1) (Aa 4) (Dq Ac))) (gV2 5 6) d_7))
def ad_3:FS:=
  (Ag (Al 2 [0] (cq_3 (Aa 0) (eC .non)))
  (Ag (Al 3 [0] (Dq (Ab (Aa 0) Ac)))
  (Ag (t_3 [3] p_7 p_8 3000)
  (Cl 2))))
def j_4:List D->R W:=Ap 7 ad_3
def i_4:FS:=
  (Ag (m_9 7 (r_2 [0] (eIf (Ak (Ae ltD (Aa 5) (Co ["Living"] "part" (Aa 0)))) (Aa 2) (Aa 3))))
  (sApp 4 (eIf (Ak (Ae (Eg false) (Aa 5) (Aa 1))) (Bj 2 m_5 (Ab (Ae Bp (Aa 6) (Aa 7)) (Ab (Co ["Living"] "modulus" (Aa 0)) Ac))) (Aa 6))))
def z_0:FS:=
  (Ag (Al 4 [] (Dq Ac))
  (Ag (bn_5 (r_2 [0] (Co ["Living"] "listed" (Aa 0))) (gV2 5 6) i_4)
  (bn_1 0 ["Living"] "listed" [4] (Aa 4))))
def d_1:Tn->List D->RR:=u_4 8 z_0
def ac_1:FS:=
  (Ag (Al 4 [1,3] (Bj 2 j_4 (Ab (Ae Be (Aa 1) (eC (.int 0))) (Ab (Aa 3) Ac))))
  (Ag (Al 5 [1,3] (Bj 2 j_4 (Ab (Ae Be (Aa 1) (eC (.int 1))) (Ab (Aa 3) Ac))))
  (Ag (Bu [1,4] (Ak (Ae (Eg false) (Ae Be (Aa 1) (eC (.int 1))) (Aa 4)))
   (aa_3 "Stuck")
   Az)
  (Ag (Bu [4,5] (Ak (Ae leD (Aq De (Ab (Aa 4) Ac)) (Aq De (Ab (Aa 5) Ac))))
   (Ag (l_0 (En [2,4] (o_3 0 3 "shift" "Living" d_1 (Bo (Aa 4) (Bo (Aa 2) (Bo (eNeg (Aa 2)) Dh))))))
  (y_2 (r_4 [4] (Aq De (Ab (Aa 4) Ac)))))
   Az)
  (Ag (l_0 (En [2,5] (o_3 0 3 "shift" "Living" d_1 (Bo (Aa 5) (Bo (eNeg (Aa 2)) (Bo (Aa 2) Dh))))))
  (y_2 (r_4 [5] (Aq De (Ab (Aa 5) Ac)))))))))
def g_3:Tn->List D->RR:=u_4 6 ac_1
def al_9:FS:=
  (Ag (sSdb 1 (Ae Be (Aa 3) (eC (.int 0))) (Cg (Ab (Aa 2) (Ab (Ae Be (Aa 3) (eC (.int 1))) Ac))))
  (sSdb 1 (Ae Be (Aa 3) (eC (.int 1))) (Cg (Ab (Aa 2) (Ab (Ae Be (Aa 3) (eC (.int 0))) Ac)))))
def aj_5:FS:=
  (Ag (Al 1 [] ae_9)
  (Ag (Du [0] (Es (Aa 0)) (gV2 2 3) al_9)
  (Cl 1)))
def aa_8:List D->R W:=Ap 4 aj_5
def f_2:FE:=
  (Cg (Ab (Aa 2) (Ab (By "places" 1 [("Living",b_5)] (Aa 0) (Ab (Aa 2) Ac)) Ac)))
def f_3:FT:=
  (Ak (Ae Cn (Aa 2) (Aa 1)))
def n_3:FS:=
  (At [0,1] (Bj 1 aa_8 (Ab (Cc 1 (x_9 (Co ["Living"] "by_key" (Aa 0))) (gC 2) f_3 f_2) Ac)))
def b_1:List D->R W:=Ap 2 n_3
def ag_0:FS:=
  (Ag (m_9 3 (r_2 [0] (By "places" 1 [("Living",b_5)] (Aa 0) (Ab (Aa 1) Ac))))
  (Ag (Bu [0,2] (Bm (Ax (Bj 2 h_4 (Ab (Aa 2) (Ab (Co ["Living"] "modulus" (Aa 0)) Ac)))))
   (ac_9 "NoValue" "at" [] (eC (.int 0)))
   Az)
  (Ag (m_9 4 (r_2 [0] (Ae Ex (Aa 2) (By "value" 1 [("Living",c_6)] (Aa 0) (Ab (Aa 1) Ac)))))
  (Ag (Al 5 [] (eC (.int 0)))
  (Ag (Bu [4] (Ak (Ae Cn (Aa 4) (eC (.int 0))))
   (m_9 5 (En [1,3,4] (o_3 0 3 "mend" "Living" g_3 (Bo (Aa 3) (Bo (Aa 4) (ak_8 [0] (By "ways_without" 1 [("Living",b_1)] (Aa 0) (Ab (Aa 1) Ac)) Dh))))))
   Az)
  (Ag (ba_6 0 ["Living"] "by_key" (Aa 1) (Aa 2))
  (y_2 (r_4 [5] (Aa 5)))))))))
def h_2:Tn->List D->RR:=u_4 6 ag_0
def o_6:FS:=
  (m_9 3 (En [1,2] (o_3 0 2 "put" "Living" h_2 (Bo (Aa 1) (Bo (Aa 2) Dh)))))
def z_1:FS:=
  (Al 3 [] (eC (.str "stuck")))
abbrev L45:List (Str×Bool):=[("NoKey",false),("NoSuch",false),("NoValue",false),("Stuck",true)]
def bb_2:FS:=
  (Ag (as_1 o_6 [⟨none, L45,z_1⟩])
  (y_2 (r_4 [3] (Aa 3))))
def e_5:Tn->List D->RR:=u_4 4 bb_2
def ac_2:FS:=
  (Ag (sExpr [1] (Bj 1 k_8 (Ab (Aa 1) Ac)))
  (Ag (Bu [0,1] (Ak (Ae (Eg true) (Aa 1) (Co ["Living"] "by_key" (Aa 0))))
   (aa_3 "NoSuch")
   Az)
  (bn_0 0 ["Living"] "by_key" (Aa 1))))
def e_0:Tn->List D->RR:=u_4 2 ac_2
def t_0:FS:=
  (Ag (ak_6 0 ["Living"] "part" [1] (Aa 1))
  (Ag (ak_6 0 ["Living"] "by_salt" [2] (Aa 2))
  (Ag (ak_6 0 ["Living"] "modulus" [3] (Aa 3))
  (Ag (ak_6 0 ["Living"] "listed" [1] (eRep (Ab (eC (.int 0)) Ac) (Ae Dd (eC (.int 2)) (Aa 1))))
  (bn_2 0 ["Living"] "by_key" ae_9)))))
def r_9:List D->R (List Str×List Tn):=y_4 4 "Living" t_0
def ap_1:FS:=
  (Ag (bn_4 (ba_3 [6,7,8]) (r_2 [4] (Bj 5 k_3 (Ab (Aa 0) (Ab (eC (.int 3)) (Ab (Aa 5) (Ab (Aa 4) (Ab (Aa 1) Ac))))))))
  (Ag (Bu [4,6,7] (Cp (Ak (Ae Ec (Aa 6) (eC (.int 1)))) (Ak (Ae (Eg false) (Aa 7) (Aa 4))))
   (Ag (l_0 (En [7] (o_3 2 1 "drop" "Living" e_0 (Bo (Aa 7) Dh))))
  (bn_6 4 (Aa 7)))
   (sIfM (mOp Cn (En [7,8] (r_3 2 2 e_5 (Bo (Aa 7) (Bo (Aa 8) Dh)))) (r_4 [] (eC (.str "stuck"))))
   (Fh 4 [8] (Aa 7) (Aa 8))
   Az))
  (Ag (l_0 (En [1,5,7,8] (r_3 3 2 e_5 (Bo (Aa 7) (Bo (Ae Bt (Ae Bp (Ae Bp (Aa 8) (eC (.int 1))) (Aa 5)) (Ae Be (Aa 1) (eC (.int 2)))) Dh)))))
  (Bu [1,2,4,5] (Cp (Ak (Ae Ec (Ae Bt (Aa 5) (eC (.int 3))) (eC (.int 0)))) (Bm (Ax (Bj 4 i_6 (Ab (Aa 2) (Ab (Aa 4) (Ab (Aa 1) (Ab (Bj 1 i_3 (Ab (Aa 5) Ac)) Ac))))))))
   (At [] (eC (.bl false)))
   Az))))
def bg_4:FS:=
  (Al 1 [0] (Bj 2 o_4 (Ab (Aa 0) (Ab (eC (.int 12)) Ac))))
def bg_5:FS:=
  (Al 2 [1] (bn_3 "Living" 3 r_9 (Ab (Ae Be (Aa 1) (eC (.int 0))) (Ab (Ae Be (Aa 1) (eC (.int 1))) (Ab (Ae Be (Aa 1) (eC (.int 2))) Ac)))))
def bg_6:FS:=
  (Al 3 [1] (bn_3 "Living" 3 r_9 (Ab (Ae Be (Aa 1) (eC (.int 0))) (Ab (Ae Be (Aa 1) (eC (.int 1))) (Ab (Ae Be (Aa 1) (eC (.int 2))) Ac)))))
def cb_2:FS:=
  (Al 4 [] ae_9)
def bg_7:FS:=
  (Bu [1,2,4] (Bm (Ax (Bj 4 i_6 (Ab (Aa 2) (Ab (Aa 4) (Ab (Aa 1) (Ab (eC (.int 7)) Ac)))))))
   (At [] (eC (.bl false)))
   Az)
def bg_8:FS:=
  (Du [0] (Ew rng1 (Ab (Bj 3 n_5 (Ab (Aa 0) (Ab (eC (.int 3)) (Ab (eC (.int 60)) Ac)))) Ac)) (gV 5) ap_1)
def bg_9:FS:=
  (At [1,2,4] (eAnd (Bj 1 n_9 (Ab (Aa 2) Ac)) (Bj 4 i_6 (Ab (Aa 2) (Ab (Aa 4) (Ab (Aa 1) (Ab (eC (.str "stranger")) Ac)))))))
def dg_0:FS:=
  (Ag bg_4
  (Ag bg_5
  (Ag bg_6
  (Ag cb_2
  (Ag bg_7
  (Ag bg_8
  bg_9))))))
def dg_1:List D->R W:=Ap 9 dg_0
end My
namespace L3
open PySem L2
def Fa:Nat->D->Bool
 |_,.non=>true
 |_,.bl _=>true
 |_,.int _=>true
 |_,.str x=>x.cps.all (· < 0x110000)
 |n + 1,.lst ds=>ds.all (Fa n)
 |n + 1,.tup ds=>ds.all (Fa n)
 |_,_=>false
theorem cr_5:∀(n:Nat) (d:D),Fa n d=true->(Dl d).canLay0=true/\(Dl d).depth<=n/\(Dl d).eqv (Dl d)=true:=by
 intro n
 induction n with
 |zero=>
  intro d h;cases d with
  |non=>exact⟨rfl,Nat.le_refl _,rfl⟩
  |bl b=>exact⟨rfl,Nat.le_refl _,by cases b <;> rfl⟩
  |int i=>exact⟨rfl,Nat.le_refl _,by show(i ==i)=true;simp⟩
  |str x=>exact⟨h,Nat.le_refl _,by show(x ==x)=true;simp⟩
  |_=>cases h
 |succ n ih=>
  have all:∀ds:List D,ds.all (Fa n)=true->PyData.canLayAll0 (s_5 ds)=true/\PyData.depthAll (s_5 ds)<=n/\PyData.eqvAll (s_5 ds) (s_5 ds)=true:=by
   intro ds
   induction ds with
   |nil=>intro _;exact⟨rfl,Nat.zero_le _,rfl⟩
   |cons d ds ih2=>
    intro h;rw [List.all_cons,Bool.and_eq_true] at h;obtain⟨a1,a2,a3⟩:=ih d h.1;obtain⟨b1,b2,b3⟩:=ih2 h.2;refine⟨?_, ?_, ?_⟩
    ·show(PyData.canLay0 (Dl d) && PyData.canLayAll0 (s_5 ds))=true;rw [a1,b1];rfl
    ·show max (PyData.depth (Dl d)) (PyData.depthAll (s_5 ds))<=n;exact Nat.max_le.mpr ⟨a2,b2⟩
    ·show(PyData.eqv (Dl d) (Dl d) && PyData.eqvAll (s_5 ds) (s_5 ds))=true;rw [a3,b3];rfl
  intro d h;cases d with
  |non=>exact⟨rfl,Nat.zero_le _,rfl⟩
  |bl b=>exact⟨rfl,Nat.zero_le _,by cases b <;> rfl⟩
  |int i=>exact⟨rfl,Nat.zero_le _,by show(i ==i)=true;simp⟩
  |str x=>exact⟨h,Nat.zero_le _,by show(x ==x)=true;simp⟩
  |lst ds=>
   obtain⟨b1,b2,b3⟩:=all ds h;exact⟨b1,Nat.succ_le_succ b2,b3⟩
  |tup ds=>
   obtain⟨b1,b2,b3⟩:=all ds h;exact⟨b1,Nat.succ_le_succ b2,b3⟩
  |_=>cases h
theorem bo_5{n:Nat}{d:D}(h:Fa n d=true)(hn:n<=60):eqC d d=true/\Db d d=true:=by
 obtain⟨a1,a2,a3⟩:=cr_5 n d h;refine⟨?_,a3⟩;unfold eqC;rw [a1,decide_eq_true (Nat.le_trans a2 hn)];rfl
theorem ag_1{d:D}(n:Nat)(h:Fa n d=true)(hn:n<=60:=by decide):Ec d d=.ok (.sh (.bl true)):=by
 obtain⟨h1,h2⟩:=bo_5 h hn;unfold Ec
 split
 ·simp
 ·rw [if_pos h1,h2]
theorem cr_6{d:D}(n:Nat)(h:Fa n d=true)(hn:n<=60:=by decide):Cn d d=.ok (.sh (.bl false)):=by
 obtain⟨h1,h2⟩:=bo_5 h hn;unfold Cn
 split
 ·simp
 ·rw [if_pos h1,h2];rfl
theorem at_8{p q:D->Bool}{l:List D}(h:l.all p=true)(i:∀d,p d=true->q d=true):l.all q=true:=by
 rw [List.all_eq_true] at h⊢;exact λd hd=>i d (h d hd)
theorem cr_7:∀{n:Nat} {d:D},Fa n d=true->Fa (n + 1) d=true:=by
 intro n
 induction n with
 |zero=>
  intro d h;cases d with
  |non=>rfl
  |bl _=>rfl
  |int _=>rfl
  |str _=>exact h
  |_=>cases h
 |succ n ih=>
  intro d h;cases d with
  |non=>rfl
  |bl _=>rfl
  |int _=>rfl
  |str _=>exact h
  |lst ds=>exact at_8 (p:=Fa n) (q:=Fa (n + 1)) h λd=>ih
  |tup ds=>exact at_8 (p:=Fa n) (q:=Fa (n + 1)) h λd=>ih
  |_=>cases h
theorem bb_3{α:Type}(f:α->Int):∀l:List α,az_8 (l.map λa=>D.int (f a))=some (l.map f)
 | []=>rfl
 |a::l=>by
  show(az_8 (l.map λa=>D.int (f a))).map (f a:: ·)=_;rw [bb_3 f l];rfl
theorem dn_4{α:Type}(f:α->Int)(l:List α):sumD [.lst (l.map λa=>D.int (f a))]=.ok (.sh (.int (l.map f).sum)):=by
 unfold sumD;simp only [bb_3]
theorem ds_3{n i:Nat}(h:i < n):ixN n (i:Int)=some i:=by
 unfold ixN;rw [if_pos (by omega),if_pos (by omega)];simp
theorem ds_4{α:Type}{xs:List α}{i:Nat}{x:α}(h:xs[i]? =some x):atI xs (i:Int)=some x:=by
 unfold atI;rw [ds_3 (List.getElem?_eq_some_iff.mp h).1];exact h
end L3
namespace My
open PySem L2 L3
def mixZ(c k:Int):Int:=((c + 1) * (48271 + 118 * k) % 2147483629 / 977 * 16807 + (c + 1) * (48271 + 118 * k) % 2147483629 * (k * k + 7) + k) % 2147483587
theorem aj_6(c k:Int)(h1: -1000<=k)(h2:k<=1000):h_0 [.int c,.int k]=.ok (.sh (.int (mixZ c k))):=by
 have hk: -18446744073709551616 < k * k + 7/\k * k + 7 < 18446744073709551616:=by
  have:k * k<=1000 * 1000:=by
   rcases Int.le_total 0 k with h|h
   ·exact Int.mul_le_mul h2 h2 h (by decide)
   ·have:(-k) * (-k)<=1000 * 1000:=Int.mul_le_mul (by omega) (by omega) (by omega) (by decide)
    rwa [Int.neg_mul_neg] at this
  have:0<=k * k:=by
   rcases Int.le_total 0 k with h|h
   ·exact Int.mul_nonneg h h
   ·have:=Int.mul_nonneg (a:= -k) (b:= -k) (by omega) (by omega)
    rwa [Int.neg_mul_neg] at this
  omega
 have m1:Ej 118 k=true:=m_1 (by decide) (by decide);have m2:Ej (c + 1) (48271 + 118 * k)=true:=be_5 (by omega) (by omega);have m3:∀z:Int,Ej z 16807=true:=λz=>be_5 (by decide) (by decide);have m4:Ej k k=true:=m_1 (by omega) (by omega);have m5:∀z:Int,Ej z (k * k + 7)=true:=λz=>be_5 hk.1 hk.2
 simp_arith [h_0,bb_1,Ao,j_1 m1,j_1 m2,j_1 (m3 _),j_1 m4,j_1 (m5 _),j_7,x_8 (show(0:Int) < 977 by decide) (by decide),Cs (show(0:Int) < 2147483629 by decide),Cs (show(0:Int) < 2147483587 by decide)]
 rfl
theorem dg_2(ns:List Int)(k:Int)(h:0<=k)(hk:k < (ns.length:Int)):atI (ns.map D.int) k=some (.int (ns.getD k.toNat 0)):=by
 apply bt_7 h;rw [List.getElem?_map];have:k.toNat < ns.length:=by omega
 simp [List.getD,this]
def am_0(ns:List Int)(k:Int):Int:=mixZ (if k < (ns.length:Int) then ns.getD k.toNat 0 % 2147483647 else 0) (k + 101)
theorem ap_2(ns:List Int)(k:Int)(h:0<=k)(h2:k<=500):h_3 [.lst (ns.map .int),.int k]=.ok (.sh (.int (am_0 ns k))):=by
 simp_arith [h_3,at_3,Ao,s_7,af_0,List.length_map]
 unfold am_0
 by_cases hk:k < (ns.length:Int)
 ·simp_arith [hk,decide_true,if_true,r_0 (dg_2 ns k h hk),Ao,Cs (show(0:Int) < 2147483647 by decide),j_7,aj_6 _ (k + 101) (by omega) (by omega)]
 ·simp_arith [hk,decide_false,if_false,Ao,j_7,aj_6 _ (k + 101) (by omega) (by omega)]
theorem cb_3(c k:Int):0<=mixZ c k:=Int.emod_nonneg _ (by decide)
theorem cb_4(c k:Int):mixZ c k < 2147483587:=Int.emod_lt_of_pos _ (by decide)
theorem cr_8(ns:List Int)(k:Int):0<=am_0 ns k:=cb_3 _ _
theorem cr_9(ns:List Int)(k:Int):am_0 ns k < 2147483587:=cb_4 _ _
theorem dn_5(ns:List Int)(k:Int)(h:0<=k)(h2:k<=400):∃z,n_6 [.lst (ns.map .int),.int k]=.ok (.sh (.int z)):=by
 have fin:∀c:Int,∃z,Ag (Bu [0] (Ak (Ae Ec (Ae Bt (Bj 2 h_3 (Ab (Aa 0) (Ab (eC (.int 0)) Ac))) (eC (.int 2))) (eC (.int 0)))) (Cl 2) Az) (At [1,2] (Bj 2 h_0 (Ab (Bj 2 h_0 (Ab (Ae Bt (Aa 2) (eC (.int 2147483647))) (Ab (Ae Bp (Aa 1) (eC (.int 7))) Ac))) (Ab (Aa 1) Ac)))) [.sh (.lst (ns.map .int)),.sh (.int k),.sh (.int c)]=.rt (.sh (.int z)):=λc=>by
  have ec:=ap_2 ns 0 (by decide) (by decide)
  by_cases hz:am_0 ns 0 % 2=0
  ·exact⟨c,by simp_arith [Ao,ec,Cs (show(0:Int) < 2 by decide),j_0,hz,decide_true]⟩
  ·exact⟨mixZ (mixZ (c % 2147483647) (k + 7)) k,by simp_arith [Ao,ec,Cs (show(0:Int) < 2 by decide),j_0,hz,decide_false,Cs (show(0:Int) < 2147483647 by decide),j_7,aj_6 _ (k + 7) (by omega) (by omega),aj_6 _ k (by omega) (by omega)]⟩
 by_cases hk:k < (ns.length:Int)
 ·obtain⟨z,ez⟩:=fin (ns.getD k.toNat 0);refine⟨z, ?_⟩;unfold n_6 aj_4 Ap;rw [Bk (Δ':=[.sh (.lst (ns.map .int)),.sh (.int k),.sh (.int 0)]) (by simp_arith [Ao]),Bk (Δ':=[.sh (.lst (ns.map .int)),.sh (.int k),.sh (.int (ns.getD k.toNat 0))]) (by simp_arith [Ao,s_7,af_0,List.length_map,hk,decide_true,r_0 (dg_2 ns k h hk)]),ez]
 ·obtain⟨z,ez⟩:=fin 0;refine⟨z, ?_⟩;unfold n_6 aj_4 Ap;rw [Bk (Δ':=[.sh (.lst (ns.map .int)),.sh (.int k),.sh (.int 0)]) (by simp_arith [Ao]),Bk (Δ':=[.sh (.lst (ns.map .int)),.sh (.int k),.sh (.int 0)]) (by simp_arith [Ao,s_7,af_0,List.length_map,hk,decide_false]),ez]
theorem cb_5{ds:List D}{i:Int}(h0:0<=i)(h1:i < (ds.length:Int)):∃d,d∈ds/\atI ds i=some d:=by
 have hl:i.toNat < ds.length:=by omega
 exact⟨ds[i.toNat],List.getElem_mem hl,bt_7 h0 (List.getElem?_eq_getElem hl)⟩
theorem cs_0:powD (.int 10) (.int 12)=.ok (.sh (.int 1000000000000)):=rfl
theorem cs_1(ns:List Int):∃p s m:Int,o_4 [.lst (ns.map .int),.int 12]=.ok (.sh (.tup [.int p,.int s,.int m]))/\1<=p/\p<=12/\0<=s/\s < 1003000000000/\2<=m/\m<=1000000001:=by
 have ec:=ap_2 ns 1 (by decide) (by decide);have c0:=cr_8 ns 1;have c1:=cr_9 ns 1;generalize am_0 ns 1=c at ec c0 c1;have em:=aj_6 c 5 (by decide) (by decide);have o0:=cb_3 c 5;have o1:=cb_4 c 5;generalize mixZ c 5=o at em o0 o1;have i0:=Int.emod_nonneg (c / 32) (show(4:Int)≠0 by decide);have i1:=Int.emod_lt_of_pos (c / 32) (show(0:Int) < 4 by decide);have j0:=Int.emod_nonneg o (show(8:Int)≠0 by decide);have j1:=Int.emod_lt_of_pos o (show(0:Int) < 8 by decide);obtain⟨d1,m1,e1⟩:=cb_5 (ds:=[.int 0,.int 1,.int (c / 64 % 1000),.int (1000000000000 + c)]) i0 i1;obtain⟨d2,m2,e2⟩:=cb_5 (ds:=[.int 2,.int 3,.int (2 + o / 8 % 9),.int 10,.int 1000,.int 1000000000,.int (2 + o / 8 % 999999999),.int 7]) j0 j1;have q1:∃s,d1=.int s/\0<=s/\s < 1003000000000:=by
  simp only [List.mem_cons,List.not_mem_nil,or_false] at m1;rcases m1 with rfl|rfl|rfl|rfl
  ·exact⟨_,rfl,by decide,by decide⟩
  ·exact⟨_,rfl,by decide,by decide⟩
  ·exact⟨_,rfl,by omega,by omega⟩
  ·exact⟨_,rfl,by omega,by omega⟩
 have q2:∃s,d2=.int s/\2<=s/\s<=1000000001:=by
  simp only [List.mem_cons,List.not_mem_nil,or_false] at m2;rcases m2 with rfl|rfl|rfl|rfl|rfl|rfl|rfl|rfl <;> exact⟨_,rfl,by omega,by omega⟩
 obtain⟨s,rfl,s0,s1⟩:=q1;obtain⟨m,rfl,m0,m1'⟩:=q2;refine⟨1 + c % 12,s,m, ?_,by omega,by omega,s0,s1,m0,m1'⟩;have dv:∀x y:Int,0 < y->y < 18446744073709551616->Fx (.int x) (.int y)=.ok (.sh (.int (x / y))):=λx y h h'=>x_8 h (by omega)
 simp_arith [o_4,al_2,Ao,ec,em,j_7,Cs (show(0:Int) < 8 by decide),Cs (show(0:Int) < 4 by decide),Cs (show(0:Int) < 12 by decide),Cs (show(0:Int) < 9 by decide),Cs (show(0:Int) < 1000 by decide),Cs (show(0:Int) < 999999999 by decide),dv _ 64 (by decide) (by decide),dv _ 32 (by decide) (by decide),dv _ 8 (by decide) (by decide),cs_0,r_0 e1,r_0 e2]
def wr:Nat->Int->List Nat->List Nat
 |0,_,zp=>zp
 |j + 1,r,zp=>wr j (r / 2) ((48 + (r % 2).toNat)::zp)
def Bx(l:List Nat):Str:=⟨l.toArray⟩
theorem k_4(l:List Nat):(Bx l).cps.toList=l:=by simp [Bx]
theorem ap_3(l:List Nat):(Bx l).length=l.length:=by rw [cz_3,k_4]
theorem dc_8(a b:List Nat):Bx a ++ Bx b=Bx (a ++ b):=bz_3 (by rw [cz_4,k_4,k_4,k_4])
theorem dn_6(x:Str):Bx x.cps.toList=x:=bz_3 (k_4 _)
def sgL:List Nat:=[97,98,99,100,101,102,103,104,105,106,107,108,109,110,111,112,113,114,115,116,117,118,119,120,121,122,48,49,50,51,52,53,54,55,56,57,45,95,32]
theorem dc_9:(Str.ofString "abcdefghijklmnopqrstuvwxyz0123456789-_ ").cps.toList=sgL:=by decide +kernel
def Bv(d:D):Prop:=(∃n:Int,d=.int n/\0<=n/\n<=999999999999999999)\/(∃l:List Nat,d=.str (Bx l)/\l.length<=11/\∀c∈l,c∈sgL)
theorem ds_5(r:Int):∃c∈sgL,Be (.str "abcdefghijklmnopqrstuvwxyz0123456789-_ ") (.int (r % 39))=.ok (.sh (.str (Bx [c]))):=by
 have h0:=Int.emod_nonneg r (show(39:Int)≠0 by decide);have h1:=Int.emod_lt_of_pos r (show(0:Int) < 39 by decide);have hl:(r % 39).toNat < sgL.length:=by show(r % 39).toNat < 39;omega
 refine⟨sgL[(r % 39).toNat],List.getElem_mem hl,cz_5 (by decide +kernel) ?_⟩;rw [dc_9];exact bt_7 h0 (List.getElem?_eq_getElem hl)
theorem dd_0(z:Int):∃l:List Nat,r_8 [.int z]=.ok (.sh (.str (Bx l)))/\(l.length:Int)=z % 12/\l.length<=11/\∀c∈l,c∈sgL:=by
 have b0:=Int.emod_nonneg z (show(12:Int)≠0 by decide);have b1:=Int.emod_lt_of_pos z (show(0:Int) < 12 by decide);obtain⟨Δ',e,l,r,a5,rfl,hl,hc⟩:=cg_2 (gV 3) w_2 (λk Δ=>∃(l:List Nat) (r:Int) (a5:Sl),Δ= [.sh (.int z),.sh (.str (Bx l)),.sh (.int r),a5]/\l.length=k/\∀c∈l,c∈sgL)
  (n:=(z % 12).toNat) (lo:=0) (Δ:=[.sh (.int z),.sh (.str ""),.sh (.int (z / 12)),.no]) ⟨[],z / 12,.no,rfl,rfl,λc hc=>absurd hc (by simp)⟩ (λk Δ hk hI=>by
  obtain⟨l,r,a5,rfl,hl,hc⟩:=hI;obtain⟨c,hcs,ec⟩:=ds_5 r;have zk:(Bx l).length + (Bx [c]).length<=16777216:=by rw [ap_3,ap_3];simp;omega
  refine⟨_,rfl,[.sh (.int z),.sh (.str (Bx (l ++ [c]))),.sh (.int (r / 39)),.sh (.int (0 + (k:Int)))],.inl ?_,_,_,_,rfl,by simp [hl], ?_⟩
  ·simp_arith [w_2,gV,List.set_cons_succ,List.set_cons_zero,Ao,Cs (show(0:Int) < 39 by decide),ec,dl_5 zk,dc_8,x_8 (show(0:Int) < 39 by decide) (by decide)]
  ·intro d hd;rcases List.mem_append.mp hd with hd|hd
   ·exact hc d hd
   ·have:d=c:=by simpa using hd
    rw [this];exact hcs)
 refine⟨l, ?_,by omega,by omega,hc⟩
 simp_arith [r_8,at_6,Ao,x_8 (show(0:Int) < 12 by decide) (by decide),Cs (show(0:Int) < 12 by decide),Du,be_6 (show -4611686018427387903<=z % 12 by omega) (by omega),e]
theorem cs_2(z:Int):∃d,Bv d/\i_3 [.int z]=.ok (.sh d):=by
 have d4:=x_8 (i:=z) (show(0:Int) < 4 by decide) (by decide);have m4:=Cs (i:=z) (show(0:Int) < 4 by decide);have p18:=dl_6 (co_4 (i:=10) (j:=18) (by decide) (by decide) (by decide) (by decide));have e18:(10:Int) ^ (18:Int).toNat=1000000000000000000:=by decide
 rw [e18] at p18;have:z % 4=0\/z % 4=1\/z % 4=2\/z % 4=3:=by omega
 rcases this with h|h|h|h
 ·refine⟨.int (z / 4 % 1000000000000000000),.inl ⟨_,rfl,by omega,by omega⟩, ?_⟩
  simp_arith [i_3,u_7,Ao,d4,m4,j_0,h,p18,Cs (show(0:Int) < 1000000000000000000 by decide)]
 ·obtain⟨l,e,_,h1,h2⟩:=dd_0 (z / 4);refine⟨.str (Bx l),.inr ⟨l,rfl,h1,h2⟩, ?_⟩;have n0:¬(1:Int)=0:=by decide
  simp_arith [i_3,u_7,Ao,d4,m4,j_0,h,n0,e]
 ·refine⟨.int (z / 4 % 50),.inl ⟨_,rfl,by omega,by omega⟩, ?_⟩;have n0:¬(2:Int)=0:=by decide
  have n1:¬(2:Int)=1:=by decide
  have e:atI [D.int 50,D.int 12] ((2:Int) - 2)=some (.int 50):=rfl
  simp_arith [i_3,u_7,Ao,d4,m4,j_0,h,n0,n1,ac_8,r_0 e,Cs (show(0:Int) < 50 by decide)]
 ·refine⟨.int (z / 4 % 12),.inl ⟨_,rfl,by omega,by omega⟩, ?_⟩;have n0:¬(3:Int)=0:=by decide
  have n1:¬(3:Int)=1:=by decide
  have e:atI [D.int 50,D.int 12] ((3:Int) - 2)=some (.int 12):=rfl
  simp_arith [i_3,u_7,Ao,d4,m4,j_0,h,n0,n1,ac_8,r_0 e,Cs (show(0:Int) < 12 by decide)]
theorem cb_6{a b:D}(ha:Bv a)(hb:Bv b):eqF a b=true↔a=b:=by
 rcases ha with⟨n,rfl,_⟩|⟨l,rfl,_⟩ <;> rcases hb with⟨m,rfl,_⟩|⟨k,rfl,_⟩
 ·show(n ==m)=true↔_;rw [beq_iff_eq];exact⟨λh=>by rw [h],λh=>by injection h⟩
 ·show false=true↔_;exact⟨λh=>(by cases h),λh=>(by cases h)⟩
 ·show false=true↔_;exact⟨λh=>(by cases h),λh=>(by cases h)⟩
 ·show(Bx l ==Bx k)=true↔_;rw [beq_iff_eq];exact⟨λh=>by rw [h],λh=>by injection h⟩
theorem mem_iff{d:D}{ks:List D}(hd:Bv d)(hk:∀k∈ks,Bv k):Ek d ks=true↔d∈ks:=by
 unfold Ek;rw [List.any_eq_true];constructor
 ·rintro ⟨y,hy,h⟩
  rw [<-(cb_6 (hk y hy) hd).mp h];exact hy
 ·intro h;exact⟨d,h,(cb_6 hd hd).mpr rfl⟩
theorem bh_0{d:D}(h:Bv d):PyData.canLay0 (Dl d)=true/\PyData.depth (Dl d)=0:=by
 rcases h with⟨n,rfl,_⟩|⟨l,rfl,_,hc⟩
 ·exact⟨rfl,rfl⟩
 ·refine⟨?_,rfl⟩;show(Bx l).cps.all (· < 0x110000)=true;rw [<-Array.all_toList,k_4,List.all_eq_true];intro c h;have:c∈sgL:=hc c h;have:∀c∈sgL,c < 0x110000:=by decide
  exact decide_eq_true (this c (hc c h))
theorem dd_1{a b:D}(ha:Bv a)(hb:Bv b):PyData.eqv (Dl a) (Dl b)=true↔a=b:=by
 rcases ha with⟨n,rfl,_⟩|⟨l,rfl,_⟩ <;> rcases hb with⟨m,rfl,_⟩|⟨k,rfl,_⟩
 ·show(n ==m)=true↔_;rw [beq_iff_eq];exact⟨λh=>by rw [h],λh=>by injection h⟩
 ·show false=true↔_;exact⟨λh=>(by cases h),λh=>(by cases h)⟩
 ·show false=true↔_;exact⟨λh=>(by cases h),λh=>(by cases h)⟩
 ·show(Bx l ==Bx k)=true↔_;rw [beq_iff_eq];exact⟨λh=>by rw [h],λh=>by injection h⟩
def sgI(c:Nat):Nat:=sgL.idxOf c
theorem cs_3:∀c∈sgL,Builtin.Str.occurrences "abcdefghijklmnopqrstuvwxyz0123456789-_ " ⟨#[c]⟩ 0 (Str.length "abcdefghijklmnopqrstuvwxyz0123456789-_ ") 1= [sgI c]:=by decide +kernel
theorem bu_7:∀c∈sgL,sgI c < 39:=by decide +kernel
def Eo(l:List Nat):Int:=l.foldl (λa c=>40 * a + (sgI c:Int) + 1) 0
theorem am_1(l:List Nat)(k c:Nat)(h:l[k]? =some c):Eo (l.take (k + 1))=40 * Eo (l.take k) + (sgI c:Int) + 1:=by
 unfold Eo;rw [List.take_add_one,h,List.foldl_append];rfl
def Cd:D->Int
 | .int n=>2 * n
 | .str x=>2 * Eo x.cps.toList + 1
 |_=>0
theorem cs_4:∀c∈sgL,Txt.find "abcdefghijklmnopqrstuvwxyz0123456789-_ " ⟨#[c]⟩=((sgI c:Nat):Int):=by decide +kernel
theorem dd_2{c:Nat}(h:c∈sgL):bk_2 (.str "abcdefghijklmnopqrstuvwxyz0123456789-_ ") [.str ⟨#[c]⟩]=.ok (.sh (.int (sgI c:Int))):=by
 show R.ok (W.sh (D.int (Txt.find "abcdefghijklmnopqrstuvwxyz0123456789-_ " ⟨#[c]⟩)))=_;rw [cs_4 c h]
theorem cs_5{c:Nat}(h:c∈sgL):ai_3 (.str "abcdefghijklmnopqrstuvwxyz0123456789-_ ") [.str ⟨#[c]⟩]=.ok (.sh (.int (sgI c:Int))):=by
 show(match Builtin.Str.occurrences "abcdefghijklmnopqrstuvwxyz0123456789-_ " ⟨#[c]⟩ 0 (Str.length "abcdefghijklmnopqrstuvwxyz0123456789-_ ") 1 with
  |i::_=>R.ok (W.sh (D.int (i:Nat)))
  | []=>R.no)=_
 rw [cs_3 c h]
theorem ds_6{c:Nat}(h:c∈sgL):inD false (.str ⟨#[c]⟩) (.str "abcdefghijklmnopqrstuvwxyz0123456789-_ ")=.ok (.sh (.bl true)):=by
 show R.ok (W.sh (D.bl (!(Builtin.Str.occurrences "abcdefghijklmnopqrstuvwxyz0123456789-_ " ⟨#[c]⟩ 0 (Str.length "abcdefghijklmnopqrstuvwxyz0123456789-_ ") 1).isEmpty)))=_;rw [cs_3 c h];rfl
theorem o_7(l:List Nat):s_6 (Bx l)=l.map λc=> .str ⟨#[c]⟩:=by unfold s_6;rw [k_4]
theorem cs_6(l:List Nat)(hl:l.length<=11)(hc:∀c∈l,c∈sgL):af_8 [.str (Bx l)]=.ok (.sh (.int (Eo l))):=by
 obtain⟨Δ',e,a2,rfl⟩:=q_0 (gV 2) aj_3 (λk Δ=>∃a2,Δ= [.sh (.str (Bx l)),.sh (.int (Eo (l.take k))),a2]) (ds:=s_6 (Bx l)) (Δ:=[.sh (.str (Bx l)),.sh (.int 0),.no]) ⟨.no,rfl⟩ (λk d Δ hk hI=>by
  obtain⟨a2,rfl⟩:=hI;rw [o_7,List.getElem?_map] at hk;cases q:l[k]? with
  |none=>rw [q] at hk;cases hk
  |some c=>
   rw [q] at hk;cases hk;refine⟨_,rfl,[.sh (.str (Bx l)),.sh (.int (Eo (l.take (k + 1)))),.sh (.str ⟨#[c]⟩)],.inl ?_,_,rfl⟩;rw [am_1 l k c q]
   simp_arith [aj_3,Ao,j_1 (m_1 (show(-18446744073709551616:Int) < 40 by decide) (by decide)),beq_self_eq_true,dd_2 (hc c (List.mem_of_getElem? q)),j_7])
 rw [o_7,List.length_map,List.take_length] at e
 simp_arith [af_8,cb_0,Ao,Du,o_7,e]
theorem ch_6{d:D}(h:Bv d):u_6 [d]=.ok (.sh (.bl true)):=by
 rcases h with⟨n,rfl,h0,h1⟩|⟨l,rfl,hl,hc⟩
 ·simp_arith [u_6,at_4,Ao,q_5,ak_7,h0,h1]
 ·have hx:(Bx l).length<=16777216:=by rw [ap_3];omega
  have ec:=co_7 (fg:=gC 1) (f:=l_7) (δ:=[some (.str (Bx l)),none]) (λ_=> .bl true) (s_6 (Bx l)) (λd hd=>by
   rw [o_7] at hd;obtain⟨c,hcl,rfl⟩:=List.mem_map.mp hd;exact⟨_,.sh (.bl true),rfl,by simp_arith [l_7,Ao,ds_6 (hc c hcl)],rfl⟩)
  have ec':=o_2 (m:=1) (fi:=Es (Aa 0)) (fg:=gC 1) (p:=λ_=> .ok true) (f:=l_7) (δ:=[some (.str (Bx l))]) (by simp_arith [Ao]) (by rw [o_7,List.length_map];omega) ec;have ha:allD [.lst ((s_6 (Bx l)).map λ_=>D.bl true)]=.ok (.sh (.bl true)):=by
   have hb:∀l:List D,ai_2 (l.map λ_=>D.bl true)=some (l.map λ_=>true):=by
    intro l
    induction l with
    |nil=>rfl
    |cons a l ih=>show(ai_2 (l.map λ_=>D.bl true)).map (true:: ·)=_;rw [ih];rfl
   unfold allD;simp only [hb]
   congr 3
   rw [List.all_eq_true];intro b hb';obtain⟨_,_,rfl⟩:=List.mem_map.mp hb';rfl
  have eg:((Bx l).length:Int)<=11:=by rw [ap_3];omega
  have et:l_3 [.str (Bx l)]=.ok (.sh (.bl true)):=by
   simp_arith [l_3,ab_8,Ao,co_5 hx,ak_7,eg,ec',ha]
  simp_arith [u_6,at_4,Ao,et]
theorem at_9{d:D}(h:Bv d):k_8 [d]=.ok (.sh (.int (Cd d))):=by
 have hk:=ch_6 h;have m2:=λj:Int=>j_1 (m_1 (j:=j) (show(-18446744073709551616:Int) < 2 by decide) (by decide));rcases h with⟨n,rfl,h0,h1⟩|⟨l,rfl,hl,hc⟩
 ·simp_arith [k_8,bg_3,Ao,hk,m2,Cd]
 ·simp_arith [k_8,bg_3,Ao,hk,cs_6 l hl hc,m2,j_7,Cd,k_4]
def s_0(n s z:Int):Int:=
 (((1 + (1103515245 * s + 12345) % (2305843009213693951 - 1)) * n + (69069 * s * s + 7 * s) % 2305843009213693951) % 2305843009213693951 + ((1 + (1103515245 * s + 12345) % (2305843009213693951 - 1)) * n + (69069 * s * s + 7 * s) % 2305843009213693951) % 2305843009213693951 / 2147483648) % z
theorem au_0(n s z:Int)(h1: -18446744073709551616 < s)(h2:s < 18446744073709551616)(hz:0 < z):af_9 [.int n,.int s,.int z]=.ok (.sh (.int (s_0 n s z)))/\m_4 [.int n,.int s,.int z]=.ok (.sh (.int (s_0 n s z))):=by
 have n0:¬z=0:=by omega
 have f0:=Int.emod_nonneg (1103515245 * s + 12345) (show(2305843009213693951 - 1:Int)≠0 by decide);have f1:=Int.emod_lt_of_pos (1103515245 * s + 12345) (show(0:Int) < 2305843009213693951 - 1 by decide);have a1:=j_1 (m_1 (i:=1103515245) (j:=s) (by decide) (by decide));have a2:=j_1 (m_1 (i:=69069) (j:=s) (by decide) (by decide));have a3:=j_1 (be_5 (i:=69069 * s) (j:=s) h1 h2);have a4:=j_1 (m_1 (i:=7) (j:=s) (by decide) (by decide));have a5:=j_1 (m_1 (i:=1 + (1103515245 * s + 12345) % (2305843009213693951 - 1)) (j:=n) (by omega) (by omega));have c1:=λi:Int=>Cs (i:=i) (show(0:Int) < 2305843009213693951 - 1 by decide);have c2:=λi:Int=>Cs (i:=i) (show(0:Int) < 2305843009213693951 by decide);have c3:=λi:Int=>Cs (i:=i) hz;have c4:=λi:Int=>x_8 (i:=i) (show(0:Int) < 2147483648 by decide) (by decide);refine⟨?_, ?_⟩
 ·simp_arith [af_9,cb_1,Ao,j_0,n0,ac_8,j_7,a1,a2,a3,a4,c1,c2,a5,c4,c3]
  rfl
 ·simp_arith [m_4,al_4,Ao,ac_8,j_7,a1,a2,a3,a4,c1,c2,a5,c4,c3]
  rfl
end My
namespace L3
open PySem L2
end L3
namespace My
open PySem L2 L3
def Bf:D->Af
 | .int i=> .inl i
 | .str x=> .inr x
 |_=> .inl 0
theorem z_2{d:D}(h:Bv d):Ee d=some (Bf d):=by
 rcases h with⟨n,rfl,_⟩|⟨l,rfl,_⟩ <;> rfl
theorem ag_2{a b:D}(ha:Bv a)(hb:Bv b)(e:Bf a=Bf b):a=b:=by
 rcases ha with⟨n,rfl,_⟩|⟨l,rfl,_⟩ <;> rcases hb with⟨m,rfl,_⟩|⟨k,rfl,_⟩
 ·injection e with e;rw [e]
 ·cases e
 ·cases e
 ·injection e with e;rw [e]
def t_6(d:D)(salt ii:Int)(j:Int):Int:=j * ii + s_0 (Cd d) (4 * salt + j) ii
def bh_1(d:D)(salt ig ii:Int):List D:=(List.range ig.toNat).map λ(k:Nat)=>D.int (t_6 d salt ii (0 + (k:Int)))
theorem ch_7{d:D}(h:Bv d)(salt ig ii:Int)(s0:0<=salt)(s1:salt<=1003000000000)(hk:ig=2\/ig=3)(p0:0 < ii)(p1:ii<=2000):
  o_5 [d,.int salt,.int ig,.int ii]=.ok (.sh (.tup (bh_1 d salt ig ii)))/\True:=by
 have hr:=be_6 (j:=ig) (by omega) (by omega);have hl:(p_5 0 ig.toNat).length<=16777216:=by rw [az_4];omega
 have cg:∀k:Nat,k < ig.toNat->Ej (0 + (k:Int)) ii=true/\Ej 4 salt=true:=λk hk=>⟨m_1 (by omega) (by omega),m_1 (by decide) (by decide)⟩;refine⟨?_,trivial⟩
 ·have ec:=cg_3 (fg:=gC 5) (p:=λ_=> .ok true) (f:=n_8) (δ:=[some d,some (.int salt),some (.int ig),some (.int ii),some (.int (Cd d)),none]) (F:=λi=> .int (t_6 d salt ii i)) ig.toNat 0 (λk hk'=>by
   obtain⟨m1,m2⟩:=cg k hk';refine⟨[some d,some (.int salt),some (.int ig),some (.int ii),some (.int (Cd d)),some (.int (0 + (k:Int)))],.sh (.int (t_6 d salt ii (0 + (k:Int)))),rfl,rfl, ?_,rfl⟩
   simp_arith [n_8,Ao,j_1 m1,j_1 m2,j_7,(au_0 (Cd d) (4 * salt + (0 + (k:Int))) ii (by omega) (by omega) p0).1,t_6])
  have ec':=o_2 (m:=1) (fi:=Ew rng1 (Ab (Aa 2) Ac)) (fg:=gC 5) (p:=λ_=> .ok true) (f:=n_8) (δ:=[some d,some (.int salt),some (.int ig),some (.int ii),some (.int (Cd d))]) (by simp_arith [Ao,hr]) hl ec
  simp_arith [o_5,al_5,Ao,at_9 h,ec',cm_2]
  rfl
def zi(ps:List Nat):List D:=ps.map λ(p:Nat)=>D.int (p:Int)
theorem bo_7(p n:Nat):h_4 [.int (p:Int),.int (n:Int)]=.ok (.sh (.bl (decide (p < n)))):=by
 simp_arith [h_4,w_1,Ao,q_5,ak_7,af_0,show(0:Int)<=(p:Int) by omega]
 rw [show decide ((p:Int) < (n:Int))=decide (p < n) by simp]
theorem ag_3(z m:Int)(h:0 < m):m_5 [.int z,.int m]=.ok (.sh (.int (z % m))):=by
 simp_arith [m_5,al_6,Ao,j_0,show¬m=0 by omega,Cs h]
def Df(ts:List Int)(p:Nat):Int:=ts.getD p 0
def n_1(ts:List Int)(ps:List Nat):Int:=(ps.map (Df ts)).sum
theorem bu_8{ts:List Int}{p:Nat}(h:p < ts.length):atI (ts.map D.int) (p:Int)=some (.int (Df ts p)):=by
 refine ds_4 ?_;rw [List.getElem?_map];simp [Df,List.getD,h]
theorem dd_3(ts:List Int)(a1 a2 a3:Option D)(ps:List Nat)(h:∀p∈ps,p < ts.length):
  m_6 (gC 4) r_7 r_6 [some (.lst (ts.map .int)),a1,a2,a3,none] (zi ps)=.ok ((ps.map λp=>D.int (Df ts p))):=by
 have:=m_2 (fg:=gC 4) (p:=r_7) (f:=r_6) (δ:=[some (.lst (ts.map .int)),a1,a2,a3,none]) (λ_=>true) (λd=>match d with| .int i=> .int (Df ts i.toNat)|d=>d) (zi ps) λd hd=>by
  obtain⟨p,hp,rfl⟩:=List.mem_map.mp hd;have hl:=h p hp;refine⟨[some (.lst (ts.map .int)),a1,a2,a3,some (.int (p:Int))],rfl, ?_,λ_=>⟨.sh (.int (Df ts p)), ?_,by simp⟩⟩
  ·simp_arith [r_7,Ao,s_7,List.length_map,bo_7,hl]
  ·simp_arith [r_6,Ao,r_0 (bu_8 hl)]
 rw [this,List.filter_eq_self.mpr λ_ _=>rfl]
 congr 1
 unfold zi;rw [List.map_map];refine List.map_congr_left λp _=> ?_;simp
theorem ch_8(ts:List Int)(ps:List Nat)(m:Int)(hm:0 < m)(h:∀p∈ps,p < ts.length)(hl:ps.length<=1000):y_8 [.lst (ts.map .int),.tup (zi ps),.int m]=.ok (.sh (.int (n_1 ts ps % m))):=by
 have ec:=o_2 (m:=1) (fi:=Es (Aa 1)) (fg:=gC 4) (p:=r_7) (f:=r_6) (δ:=[some (.lst (ts.map .int)),some (.tup (zi ps)),some (.int m),none]) (ds:=zi ps) (by simp_arith [Ao]) (by unfold zi;rw [List.length_map];omega) (dd_3 ts _ _ _ ps h)
 simp_arith [y_8,bo_4,Ao,ec,dn_4,ag_3 _ m hm]
 rfl
def lN:List Str:=["part","by_salt","modulus","listed","by_key"]
def Ah(p s m:Int)(T:List Int)(kds:List (Af×D)):Tn:=.obj "Living" lN [.sh (.int p),.sh (.int s),.sh (.int m),.sh (.lst (T.map .int)),Tn.of (.dic kds)]
def Bi(p s m:Int)(T:List Int)(kds:List (Af×D)):D:=.obj "Living" lN [.int p,.int s,.int m,.lst (T.map .int),.dic kds]
section
variable{p s m:Int}{T:List Int}{kds:List (Af×D)}{d:D}
theorem z_3:(Ah p s m T kds).d=Bi p s m T kds:=by
 have h:=Tn.of_d (.dic kds);show D.obj "Living" lN [.int p,.int s,.int m,.lst (T.map .int),(Tn.of (.dic kds)).d]=_;rw [h];rfl
theorem aj_7:∀kds:List (Af×D),Tn.lendsK (kds.map λp=>(p.1,Tn.sh p.2))=true
 | []=>by simp only [List.map_nil,Tn.lendsK]
 |(k,d)::kds=>by simp only [List.map_cons,Tn.lendsK,Tn.lends,aj_7 kds,Bool.and_self]
theorem bu_9:(Ah p s m T kds).lends=true:=by
 have h:(Tn.of (.dic kds)).lends=true:=by
  show Tn.lends (.dic (kds.map λp=>(p.1,.sh p.2)))=true;simp only [Tn.lends,aj_7]
 simp only [Ah,Tn.lends,Tn.lendsL,h,Bool.and_self]
theorem fld{f:Str}{v:D}{e:FE}{δ:DE}(he:e δ=.ok (.sh (Bi p s m T kds)))(h:(lN.zip [D.int p,.int s,.int m,.lst (T.map .int),.dic kds]).lookup f=some v):Co ["Living"] f e δ=.ok (.sh v):=by
 unfold Co;rw [he];simp only [R.bind_ok,W.d_sh,Bi];rw [h];rfl
theorem aa_9(h:Bv d)(s0:0<=s)(s1:s<=1003000000000)(p0:0 < p)(p1:p<=2000):b_5 [Bi p s m T kds,d]=.ok (.sh (.tup (bh_1 d s 2 p))):=by
 have e1:Co ["Living"] "by_salt" (Aa 0) [some (Bi p s m T kds),some d]=.ok (.sh (.int s)):=fld rfl rfl;have e2:Co ["Living"] "part" (Aa 0) [some (Bi p s m T kds),some d]=.ok (.sh (.int p)):=fld rfl rfl;have:=(ch_7 h s 2 p s0 s1 (.inl rfl) p0 p1).1
 simp_arith [b_5,w_8,Ao,e1,e2,this]
theorem au_1(hl:T.length<=1000):b_7 [Bi p s m T kds]=.ok (.ow (.lst (T.map .int))):=by
 have e1:Co ["Living"] "listed" (Aa 0) [some (Bi p s m T kds)]=.ok (.sh (.lst (T.map .int))):=fld rfl rfl
 simp_arith [b_7,y_6,Ao,e1,ar_0]
end
theorem bb_4:∀(Δ:SE) (n:Nat),y_1 [0] (n + 1) Δ=As Δ
 | [],_=>rfl
 |s::Δ,n=>by
  have h:([0]:List Nat).contains (n + 1)=false:=by simp
  simp only [y_1,h,Bool.false_eq_true,if_false,bb_4 Δ (n + 1)];rfl
theorem dg_3(t:Tn)(Δ:SE):Ds [0] (.lt t::Δ)=some t.d::As Δ:=by
 show(if([0]:List Nat).contains 0=true then(Sl.lt t).any else(Sl.lt t).pub)::y_1 [0] (0 + 1) Δ=_;rw [bb_4];rfl
section
variable{p s m:Int}{T:List Int}{kds:List (Af×D)}{d:D}{Δ:SE}{f:FE}
theorem bb_5:m_8 [0] (.lt (Ah p s m T kds)::Δ)=true:=by
 have h:=bu_9 (p:=p) (s:=s) (m:=m) (T:=T) (kds:=kds);simp only [m_8,List.all_cons,List.all_nil,List.getElem?_cons_zero,Sl.own,h,Bool.and_self]
theorem ap_4{w:W}(h:f (some (Bi p s m T kds)::As Δ)=.ok w)(hp:y_0 w=true):r_2 [0] f (.lt (Ah p s m T kds)::Δ)=.ok w.d (.lt (Ah p s m T kds)::Δ):=by
 unfold r_2;rw [bb_5,if_pos rfl,dg_3,z_3,h];simp only [hp,if_true]
theorem met1{F:List D->R W}{n:Str}{e a:FE}{δ:DE}{w:W}(he:e δ=.ok (.sh (Bi p s m T kds)))(ha:a δ=.ok w)(hn:lN.contains n=false):By n 1 [("Living",F)] e (Ab a Ac) δ=F [Bi p s m T kds,w.d]:=by
 unfold By;rw [he];simp only [R.bind_ok,W.d_sh,Bi,Ab,Ac,ha];rw [hn];rfl
theorem met0{F:List D->R W}{n:Str}{e:FE}{δ:DE}(he:e δ=.ok (.sh (Bi p s m T kds)))(hn:lN.contains n=false):By n 0 [("Living",F)] e Ac δ=F [Bi p s m T kds]:=by
 unfold By;rw [he];simp only [R.bind_ok,W.d_sh,Bi,Ac];rw [hn];rfl
end
section
variable{p s m:Int}{T:List Int}{kds:List (Af×D)}{d v:D}{w:Int}
theorem ap_5{n:Nat}{mn:Str}{M:Tn->List D->RR}{ga:SE->R (List D)}{Δ:SE}{ds:List D}(hm:lN.contains mn=false)(hg:ga (.lt (Ah p s m T kds)::Δ)=.ok ds)(hl:ds.length=n):o_3 0 n mn "Living" M ga (.lt (Ah p s m T kds)::Δ)=goR 0 true (.lt (Ah p s m T kds)::Δ) (M (Ah p s m T kds) ds):=by
 have hb:((Sl.lt (Ah p s m T kds)::Δ)[0]?).bind Sl.tree=some (Ah p s m T kds,true):=rfl;unfold o_3;rw [hb];unfold Ah at hg⊢;simp only [hm,and_self,if_true,hg,hl]
end
theorem cs_8(z n:Int):h_4 [.int z,.int n]=.ok (.sh (.bl (decide (0<=z/\z < n)))):=by
 by_cases h:0<=z
 ·simp_arith [h_4,w_1,Ao,q_5,ak_7,af_0,h,true_and]
 ·simp_arith [h_4,w_1,Ao,q_5,ak_7,af_0,h,false_and]
theorem q_1(n s:Int){z:Int}(h:0 < z):0<=s_0 n s z:=by unfold s_0;exact Int.emod_nonneg _ (by omega)
theorem bb_6(n s:Int){z:Int}(h:0 < z):s_0 n s z < z:=by unfold s_0;exact Int.emod_lt_of_pos _ h
def pA(d:D)(s p:Int):Nat:=(s_0 (Cd d) (4 * s + 0) p).toNat
def pB(d:D)(s p:Int):Nat:=(p + s_0 (Cd d) (4 * s + 1) p).toNat
theorem w_3(d:D)(s:Int){p:Int}(h:0 < p):bh_1 d s 2 p=zi [pA d s p,pB d s p]:=by
 have a0:=q_1 (Cd d) (4 * s + 0) h;have b0:=q_1 (Cd d) (4 * s + 1) h;show [D.int (t_6 d s p (0 + ((0:Nat):Int))),D.int (t_6 d s p (0 + ((1:Nat):Int)))]= [D.int ((pA d s p:Nat):Int),D.int ((pB d s p:Nat):Int)];have e1:t_6 d s p (0 + ((0:Nat):Int))=((pA d s p:Nat):Int):=by
  unfold t_6 pA;rw [show(0:Int) + ((0:Nat):Int)=0 from rfl];omega
 have e2:t_6 d s p (0 + ((1:Nat):Int))=((pB d s p:Nat):Int):=by
  unfold t_6 pB;rw [show(0:Int) + ((1:Nat):Int)=1 from rfl];omega
 rw [e1,e2]
theorem au_2(d:D)(s:Int){p:Int}(h:0 < p):(pA d s p:Int) < p:=by
 have a0:=q_1 (Cd d) (4 * s + 0) h;have a1:=bb_6 (Cd d) (4 * s + 0) h;unfold pA;omega
theorem au_3(d:D)(s:Int){p:Int}(h:0 < p):(pB d s p:Int) < 2 * p/\p<=(pB d s p:Int):=by
 have a0:=q_1 (Cd d) (4 * s + 1) h;have a1:=bb_6 (Cd d) (4 * s + 1) h;unfold pB;omega
structure Szs(p s m:Int)(T:List Int):Prop where
 p0:0 < p
 p1:p<=12
 s0:0<=s
 s1:s<=1003000000000
 m0:2<=m
 m1:m<=1000000001
 tl:(T.length:Int)=2 * p
section
variable{p s m:Int}{T:List Int}{kds:List (Af×D)}{d:D}(z:Szs p s m T)
include z
theorem bo_8(h:Bv d):c_6 [Bi p s m T kds,d]=.ok (.sh (.int (n_1 T [pA d s p,pB d s p] % m))):=by
 have a:=au_2 d s z.p0;have b:=au_3 d s z.p0;have tl:=z.tl;have e1:Co ["Living"] "listed" (Aa 0) [some (Bi p s m T kds),some d]=.ok (.sh (.lst (T.map .int))):=fld rfl rfl;have e3:Co ["Living"] "modulus" (Aa 0) [some (Bi p s m T kds),some d]=.ok (.sh (.int m)):=fld rfl rfl;have hp:=aa_9 (m:=m) (T:=T) (kds:=kds) h z.s0 z.s1 z.p0 (by have:=z.p1;omega);rw [w_3 d s z.p0] at hp;have e2:By "places" 1 [("Living",b_5)] (Aa 0) (Ab (Aa 1) Ac) [some (Bi p s m T kds),some d]=.ok (.sh (.tup (zi [pA d s p,pB d s p]))):=(met1 (w:=.sh d) rfl rfl (by decide +kernel)).trans hp;have hs:=ch_8 T [pA d s p,pB d s p] m (by have:=z.m0;omega) (λq hq=>by
  have:q=pA d s p\/q=pB d s p:=by simpa using hq
  omega) (by simp)
 simp_arith [c_6,y_9,Ao,e1,e2,e3,hs]
end
theorem bv_1:∀kds:List (Af×D),unS (kds.map λp=>(p.1,Tn.sh p.2))=some kds
 | []=>rfl
 |(k,d)::kds=>by
  have:=bv_1 kds;simp only [List.map_cons,unS,this,Option.map_some]
section
variable{p s m:Int}{T:List Int}{kds ae:List (Af×D)}{d:D}
theorem au_4:(["Living"]:List Str).contains ("Living" :Str)=true:=by decide +kernel
theorem dg_4:(lN.zip [Tn.sh (.int p),.sh (.int s),.sh (.int m),.sh (.lst (T.map .int)),Tn.of (.dic kds)]).lookup ("by_key" :Str)=some (Tn.dic (kds.map λp=>(p.1,Tn.sh p.2))):=rfl
theorem cs_9:repF lN [Tn.sh (.int p),.sh (.int s),.sh (.int m),.sh (.lst (T.map .int)),Tn.of (.dic kds)] "by_key" (Tn.of (.dic ae))= [Tn.sh (.int p),.sh (.int s),.sh (.int m),.sh (.lst (T.map .int)),Tn.of (.dic ae)]:=rfl
theorem dn_7{T':List Int}:repF lN [Tn.sh (.int p),.sh (.int s),.sh (.int m),.sh (.lst (T.map .int)),Tn.of (.dic kds)] "listed" (.sh (.lst (T'.map .int)))= [Tn.sh (.int p),.sh (.int s),.sh (.int m),.sh (.lst (T'.map .int)),Tn.of (.dic kds)]:=rfl
theorem fpop{Δ:SE}{fk:FE}{k:Af}{w:W}(hk:fk (none::As Δ)=.ok w)(hw:Ee w.d=some k)(hh:(Bh kds k).isSome=true):bn_0 0 ["Living"] "by_key" fk (.lt (Ah p s m T kds)::Δ)=.nx (.lt (Ah p s m T (Ei kds k))::Δ):=by
 have hb:((Sl.lt (Ah p s m T kds)::Δ)[0]?).bind Sl.tree=some (Ah p s m T kds,true):=rfl;have hv:As (Sl.lt (Ah p s m T kds)::Δ)=none::As Δ:=rfl;unfold bn_0;rw [hb,hv];unfold Ah;simp only [au_4,dg_4,bv_1,hk,hw,hh,if_true,cs_9];rfl
theorem fput{Δ:SE}{fk fe:FE}{k:Af}{w v:W}(hk:fk (none::As Δ)=.ok w)(hw:Ee w.d=some k)(he:fe (none::As Δ)=.ok v)(hl:kds.length < 16777216):ba_6 0 ["Living"] "by_key" fk fe (.lt (Ah p s m T kds)::Δ)=.nx (.lt (Ah p s m T (Cr kds k v.d))::Δ):=by
 have hb:((Sl.lt (Ah p s m T kds)::Δ)[0]?).bind Sl.tree=some (Ah p s m T kds,true):=rfl;have hv:As (Sl.lt (Ah p s m T kds)::Δ)=none::As Δ:=rfl;unfold ba_6;rw [hb,hv];unfold Ah;simp only [au_4,dg_4,bv_1,hk,hw,he,hl,if_true,cs_9];rfl
end
section
variable{p s m:Int}{T:List Int}{kds:List (Af×D)}{d v:D}
theorem ch_9(h:Bv d)(g1 g2:FS):Bu [0,1] (Ak (Ae (Eg true) (Aa 1) (Co ["Living"] "by_key" (Aa 0)))) g1 g2 [.lt (Ah p s m T kds),.sh d]=if Cz kds (Bf d)=true then g2 [.lt (Ah p s m T kds),.sh d] else g1 [.lt (Ah p s m T kds),.sh d]:=by
 have e1:Co ["Living"] "by_key" (Aa 0) [some (Bi p s m T kds),some d]=.ok (.sh (.dic kds)):=fld rfl rfl;have hk:=z_2 h;cases hh:Cz kds (Bf d) with
 |true=>simp_arith [Ao,Sl.any,z_3,e1,Eg,hk,hh,if_true,Bool.not_true]
 |false=>simp_arith [Ao,Sl.any,z_3,e1,Eg,hk,hh,if_true,Bool.not_false]
theorem x_5(h:Bv d):sExpr [1] (Bj 1 k_8 (Ab (Aa 1) Ac)) [.lt (Ah p s m T kds),.sh d]=.nx [.lt (Ah p s m T kds),.sh d]:=by
 simp_arith [Ao,Sl.any,at_9 h]
theorem ct_0(h:Bv d)(hh:Cz kds (Bf d)=true):e_0 (Ah p s m T kds) [d]=.ok .non (Ah p s m T (Ei kds (Bf d))):=by
 unfold e_0 u_4 ac_2;rw [show y_3 2 (Ah p s m T kds) [d]= [.lt (Ah p s m T kds),.sh d] from rfl,Bk (x_5 h)];have q2:=ch_9 (p:=p) (s:=s) (m:=m) (T:=T) (kds:=kds) h (aa_3 "NoSuch") Az;rw [hh,if_pos rfl] at q2;rw [Bk (Δ':=[.lt (Ah p s m T kds),.sh d]) q2,fpop (k:=Bf d) (w:=.sh d) rfl (z_2 h) hh]
end
theorem dd_4:∀c∈sgL,∀d∈sgL,sgI c=sgI d->c=d:=by decide +kernel
theorem ab_0(l:List Nat)(c:Nat):Eo (l ++ [c])=40 * Eo l + (sgI c:Int) + 1:=by
 unfold Eo;rw [List.foldl_append];rfl
theorem ad_4(l:List Nat):l= []\/∃k c,l=k ++ [c]:=by
 by_cases h:l= []
 ·exact .inl h
 ·exact .inr ⟨l.dropLast,l.getLast h,(List.dropLast_concat_getLast h).symm⟩
theorem ci_0:∀(n:Nat) (l k:List Nat),l.length=n->(∀c∈l,c∈sgL)->(∀c∈k,c∈sgL)->Eo l=Eo k->l=k:=by
 intro n
 induction n with
 |zero=>
  intro l k hl hc hk e;have:l= []:=List.length_eq_zero_iff.mp hl;subst this;rcases ad_4 k with rfl|⟨k',d,rfl⟩
  ·rfl
  ·have hd:=bu_7 d (hk d (by simp));rw [ab_0] at e;have e0:Eo []=0:=rfl;rw [e0] at e;omega
 |succ n ih=>
  intro l k hl hc hk e;rcases ad_4 l with rfl|⟨l',c,rfl⟩
  ·simp at hl
  ·have hcl:=bu_7 c (hc c (by simp));rcases ad_4 k with rfl|⟨k',d,rfl⟩
   ·rw [ab_0] at e;have e0:Eo []=0:=rfl;rw [e0] at e;omega
   ·have hdl:=bu_7 d (hk d (by simp));rw [ab_0,ab_0] at e;have e1:sgI c=sgI d:=by omega
    have e2:Eo l'=Eo k':=by omega
    have e3:=dd_4 c (hc c (by simp)) d (hk d (by simp)) e1;have e4:=ih l' k' (by simpa using hl) (λx hx=>hc x (by simp [hx])) (λx hx=>hk x (by simp [hx])) e2;rw [e3,e4]
theorem bb_7{a b:D}(ha:Bv a)(hb:Bv b)(e:Cd a=Cd b):a=b:=by
 rcases ha with⟨n,rfl,_⟩|⟨l,rfl,_,hc⟩ <;> rcases hb with⟨m,rfl,_⟩|⟨k,rfl,_,hk⟩
 ·have e:2 * n=2 * m:=e;rw [show n=m by omega]
 ·have e:2 * n=2 * Eo (Bx k).cps.toList + 1:=e;omega
 ·have e:2 * Eo (Bx l).cps.toList + 1=2 * m:=e;omega
 ·have e:2 * Eo (Bx l).cps.toList + 1=2 * Eo (Bx k).cps.toList + 1:=e;rw [k_4,k_4] at e;rw [ci_0 l.length l k rfl hc hk (by omega)]
theorem ct_1{d:D}(h:Bv d):kD (Bf d)=d:=by rcases h with⟨n,rfl,_⟩|⟨l,rfl,_⟩ <;> rfl
structure KOk(kds:List (Af×D))(ks:List D):Prop where
 key:∀k∈ks,Bv k
 nd:ks.Nodup
 eq:kds.map (·.1)=ks.map Bf
 val:∀q∈kds,∃n:Int,q.2=.int n
 len:ks.length<=60
section
variable{kds:List (Af×D)}{ks:List D}
theorem KOk.ds(h:KOk kds ks):(kds.map λp=>kD p.1)=ks:=by
 rw [show(kds.map λp=>kD p.1)=(kds.map (·.1)).map kD by rw [List.map_map];rfl,h.eq,List.map_map];have:∀{l:List D},(∀k∈l,Bv k)->l.map (kD ∘ Bf)=l:=λ{l}=>by
  induction l with
  |nil=>intro _;rfl
  |cons a l ih=>intro hl;rw [List.map_cons,ih λk hk=>hl k (.tail _ hk)];show kD (Bf a)::l=_;rw [ct_1 (hl a (.head _))]
 exact this h.key
theorem KOk.length(h:KOk kds ks):kds.length=ks.length:=by
 have:=congrArg List.length h.eq
 rwa [List.length_map,List.length_map] at this
theorem ag_4:∀{l:List D},(∀k∈l,Bv k)->v_8 k_8 l=.ok (l.map λd=>(Cd d,d))
 | [],_=>rfl
 |d::l,h=>by
  unfold v_8;rw [at_9 (h d (.head _))];simp only [R.bind_ok,W.d_sh,ag_4 λk hk=>h k (.tail _ hk)];rfl
theorem ab_1{α β:Type}{f:α->β}:∀{l:List α},(∀x∈l,∀y∈l,f x=f y->x=y)->l.Nodup->(l.map f).Nodup
 | [],_,_=> .nil
 |a::l,inj,nd=>by
  rw [List.nodup_cons] at nd;rw [List.map_cons,List.nodup_cons];refine⟨λhm=> ?_,ab_1 (λx hx y hy=>inj x (.tail _ hx) y (.tail _ hy)) nd.2⟩;obtain⟨b,hb,e⟩:=List.mem_map.mp hm;exact nd.1 (inj b (.tail _ hb) a (.head _) e▸hb)
def Fq(ks:List D):List D:=(u_5 (ks.map λd=>(Cd d,d))).map (·.2)
theorem k_9(ks:List D):(Fq ks).Perm ks:=by
 have h:=(v_9 (ks.map λd=>(Cd d,d))).map (·.2);rw [List.map_map] at h;have e:(ks.map ((λx:Int×D=>x.2) ∘ λd=>(Cd d,d)))=ks:=by
  rw [show((λx:Int×D=>x.2) ∘ λd=>(Cd d,d))=id from rfl,List.map_id]
 rw [e] at h;exact h
theorem ct_2(h:KOk kds ks):as_3 k_8 (kds.map λp=>kD p.1)=.ok (.ow (.lst (Fq ks))):=by
 unfold as_3;rw [h.ds,ag_4 h.key];have nd:((ks.map λd=>(Cd d,d)).map (·.1)).Nodup:=by
  rw [List.map_map];exact ab_1 (λx hx y hy e=>bb_7 (h.key x hx) (h.key y hy) e) h.nd
 have hl:=h.len;simp only [List.length_map,show ks.length < 64 by omega,nd,and_self,if_true];rfl
theorem bh_2:∀{kds:List (Af×D)} {k:Af},k∈kds.map (·.1)->∃v,Bh kds k=some v/\(k,v)∈kds
 | [],_,h=>by cases h
 |(a,v)::r,k,h=>by
  unfold Bh
  by_cases e:a=k
  ·subst e;exact⟨v,by rw [List.find?_cons_of_pos (by simp)];rfl,.head _⟩
  ·rw [List.map_cons,List.mem_cons] at h;rcases h with h|h
   ·exact absurd h.symm e
   ·obtain⟨w,e1,e2⟩:=bh_2 h;unfold Bh at e1;exact⟨w,by rw [List.find?_cons_of_neg (by simpa using e)];exact e1,.tail _ e2⟩
theorem KOk.get(h:KOk kds ks){d:D}(hd:d∈ks):∃n:Int,Bh kds (Bf d)=some (.int n):=by
 obtain⟨v,e,hm⟩:=bh_2 (kds:=kds) (k:=Bf d) (by rw [h.eq];exact List.mem_map_of_mem hd);obtain⟨n,en⟩:=h.val _ hm;exact⟨n,by rw [e];exact congrArg some en⟩
end
def Dz(kds:List (Af×D))(ks:List D):List D:=(Fq ks).map λd=> .tup [d,(Bh kds (Bf d)).getD .non]
section
variable{p s m:Int}{T:List Int}{kds:List (Af×D)}{ks:List D}{d:D}
theorem cb_7(h:KOk kds ks):c_4 [Bi p s m T kds]=.ok (.ow (.lst (Dz kds ks))):=by
 have mem:∀d,d∈Fq ks->d∈ks:=λd hd=>(k_9 ks).mem_iff.mp hd;have e1:Co ["Living"] "by_key" (Aa 0) [some (Bi p s m T kds)]=.ok (.sh (.dic kds)):=fld rfl rfl;have es:Es (as_4 k_8 (Co ["Living"] "by_key" (Aa 0))) [some (Bi p s m T kds)]=.ok (Fq ks):=by
  unfold Es as_4;rw [e1];simp only [R.bind_ok,W.d_sh,ct_2 h,W.d_ow];rfl
 have hl:(Fq ks).length<=16777216:=by
  rw [(k_9 ks).length_eq];have:=h.len;omega
 have hc:=m_2 (fg:=gC 1) (p:=λ_=> .ok true) (f:=l_8) (δ:=[some (Bi p s m T kds),none]) (λ_=>true) (λd=> .tup [d,(Bh kds (Bf d)).getD .non]) (Fq ks) λd hd=>by
  obtain⟨n,en⟩:=h.get (mem d hd);have hk:=z_2 (h.key d (mem d hd));refine⟨[some (Bi p s m T kds),some d],rfl,rfl,λ_=>⟨.sh (.tup [d,.int n]), ?_,by rw [en];rfl⟩⟩;have e2:Co ["Living"] "by_key" (Aa 0) [some (Bi p s m T kds),some d]=.ok (.sh (.dic kds)):=fld rfl rfl
  simp_arith [l_8,Ao,e2,getK,hk,en]
 rw [List.filter_eq_self.mpr λ_ _=>rfl] at hc;have ec:=o_2 (m:=1) (fi:=Es (as_4 k_8 (Co ["Living"] "by_key" (Aa 0)))) (fg:=gC 1) (p:=λ_=> .ok true) (f:=l_8) (δ:=[some (Bi p s m T kds)]) es hl hc
 simp_arith [c_4,ab_9,Ao,ec]
 rfl
theorem aj_8(h:Bv d):Fs d=true:=by rcases h with⟨n,rfl,_⟩|⟨l,rfl,_⟩ <;> rfl
theorem ct_3:∀c∈sgL,c < 0x110000:=by decide +kernel
theorem dn_8(n:Nat)(h:Bv d):Fa n d=true:=by
 rcases h with⟨i,rfl,_⟩|⟨l,rfl,_,hc⟩
 ·cases n <;> rfl
 ·have:(Bx l).cps.all (· < 0x110000)=true:=by
   rw [Array.all_eq_true_iff_forall_mem];intro c hm;have:c∈l:=by simpa [Bx] using hm
   simpa using ct_3 c (hc c this)
  cases n <;> exact this
theorem bb_8(h:KOk kds ks):∀x∈Dz kds ks,Fs x=true/\Fa 1 x=true:=λx hx=>by
 obtain⟨d,hd,rfl⟩:=List.mem_map.mp hx;have hm:=(k_9 ks).mem_iff.mp hd;obtain⟨n,en⟩:=h.get hm;have hk:=h.key d hm;rw [en];refine⟨?_, ?_⟩
 ·simp only [Option.getD_some,Fs,Fc,aj_8 hk,Bool.and_self]
 ·simp only [Option.getD_some,Fa,List.all_cons,List.all_nil,dn_8 0 hk,Bool.and_self]
theorem au_5:∀{l:List D},(∀x∈l,Fs x=true)->Fc l=true
 | [],_=>by simp only [Fc]
 |d::l,h=>by simp only [Fc,h d (.head _),au_5 λx hx=>h x (.tail _ hx),Bool.and_self]
theorem ct_4(h:KOk kds ks):(Dz kds ks).length=kds.length:=by
 unfold Dz;rw [List.length_map,(k_9 ks).length_eq,h.length]
def snap(T:List Int)(kds:List (Af×D))(ks:List D):D:=.lst [.lst (T.map .int),.lst (Dz kds ks)]
theorem dd_6(h:KOk kds ks):Ec (snap T kds ks) (snap T kds ks)=.ok (.sh (.bl true)):=by
 refine ag_1 3 ?_;have h2:(Dz kds ks).all (Fa 1)=true:=List.all_eq_true.mpr λx hx=>(bb_8 h x hx).2;have h1:(T.map D.int).all (Fa 1)=true:=List.all_eq_true.mpr λx hx=>by obtain⟨i,_,rfl⟩:=List.mem_map.mp hx;rfl
 simp only [snap,Fa,List.all_cons,List.all_nil,h1,h2,Bool.and_self]
theorem au_6:∀T:List Int,Fc (T.map .int)=true
 | []=>by simp only [List.map_nil,Fc]
 |i::T=>by simp only [List.map_cons,Fc,Fs,au_6 T,Bool.and_self]
end
section
variable{p s m:Int}{T:List Int}{kds:List (Af×D)}{ks:List D}{d:D}
theorem au_7:∀{ds:List D},Fc ds=true->k_7 (ds.map .sh)=true
 | [],_=>by simp only [List.map_nil,k_7]
 |d::ds,h=>by
  simp only [Fc,Bool.and_eq_true] at h;simp only [List.map_cons,k_7,m_7,h.1,au_7 h.2,Bool.and_self]
theorem dd_7{x:D}(h:Fa 3 x=true)(hs:∀y,x≠ .str y):Cn x x=.ok (.sh (.bl false)):=by
 have e:=ag_1 3 h;cases x with
 |str y=>exact absurd rfl (hs y)
 |_=>
  unfold Ec at e;unfold Cn;simp only at e⊢
  split at e
  ·rename_i hc;rw [if_pos hc];injection e with e
   injection e with e
   injection e with e
   rw [e];rfl
  ·cases e
end
theorem ap_6{ns:List Str}{ts:List Tn}{f:Str}{js:List Nat}{fe:FE}{Δ:SE}{w:W}(hj:gsome js (.lt (.obj "Living" ns ts)::Δ)=.lt (.obj "Living" ns ts)::Δ)(h1:ns.contains f=false)(h2:ns.length < 1000)(hf:fe (none::As Δ)=.ok w):ak_6 0 ["Living"] f js fe (.lt (.obj "Living" ns ts)::Δ)=.nx (.lt (.obj "Living" (ns ++ [f]) (ts ++ [.sh w.d]))::Δ):=by
 unfold ak_6;rw [hj,show As (.lt (.obj "Living" ns ts)::Δ)=none::As Δ from rfl,hf];simp only [List.getElem?_cons_zero,au_4,h1,h2,and_self,if_true,List.set_cons_zero]
abbrev Lw:List Str:=["part","by_salt","modulus","listed"]
theorem dd_8{p s m:Int}(p0:0 < p)(p1:p<=12):r_9 [.int p,.int s,.int m]=.ok (lN,[.sh (.int p),.sh (.int s),.sh (.int m),.sh (.lst ((List.replicate (2 * p).toNat (0:Int)).map .int)),Tn.of (.dic [])]):=by
 have mm:Ej 2 p=true:=m_1 (by decide) (by decide);have fb:repD [D.int 0] (.int (2 * p))=.ok (.ow (.lst ((List.replicate (2 * p).toNat (0:Int)).map .int))):=by
  unfold repD;simp only;rw [if_pos ⟨by omega,by simp;omega⟩];have:∀n:Nat,(List.replicate n [D.int 0]).flatten=(List.replicate n (0:Int)).map .int:=λn=>by
   induction n with
   |zero=>rfl
   |succ n ih=>rw [List.replicate_succ,List.flatten_cons,ih];rfl
  rw [this]
 have hr:eRep (Ab (eC (.int 0)) Ac) (Ae Dd (eC (.int 2)) (Aa 1)) [none,some (.int p),some (.int s),some (.int m)]=.ok (.ow (.lst ((List.replicate (2 * p).toNat (0:Int)).map .int))):=by
  simp_arith [eRep,Ao,j_1 mm,fb]
 have a1:=ap_6 (ns:=[]) (ts:=[]) (f:= "part") (js:=[1]) (fe:=Aa 1) (Δ:=[.sh (.int p),.sh (.int s),.sh (.int m)]) (w:=.sh (.int p)) rfl rfl (by decide) rfl;have a2:=ap_6 (ns:=["part"]) (ts:=[.sh (.int p)]) (f:= "by_salt") (js:=[2]) (fe:=Aa 2) (Δ:=[.sh (.int p),.sh (.int s),.sh (.int m)]) (w:=.sh (.int s)) rfl (by decide +kernel) (by decide) rfl;have a3:=ap_6 (ns:=["part","by_salt"]) (ts:=[.sh (.int p),.sh (.int s)]) (f:= "modulus") (js:=[3]) (fe:=Aa 3) (Δ:=[.sh (.int p),.sh (.int s),.sh (.int m)]) (w:=.sh (.int m)) rfl (by decide +kernel) (by decide) rfl;have a4:=ap_6 (ns:=["part","by_salt","modulus"]) (ts:=[.sh (.int p),.sh (.int s),.sh (.int m)]) (f:= "listed") (js:=[1]) (Δ:=[.sh (.int p),.sh (.int s),.sh (.int m)]) rfl (by decide +kernel) (by decide) hr;have a5:bn_2 0 ["Living"] "by_key" ae_9 [.lt (.obj "Living" Lw [.sh (.int p),.sh (.int s),.sh (.int m),.sh (.lst ((List.replicate (2 * p).toNat (0:Int)).map .int))]),.sh (.int p),.sh (.int s),.sh (.int m)]=.nx [.lt (.obj "Living" lN [.sh (.int p),.sh (.int s),.sh (.int m),.sh (.lst ((List.replicate (2 * p).toNat (0:Int)).map .int)),Tn.of (.dic [])]),.sh (.int p),.sh (.int s),.sh (.int m)]:=by
  have h1:(Lw:List Str).contains ("by_key" :Str)=false:=by decide +kernel
  unfold bn_2;simp only [List.getElem?_cons_zero,au_4,h1,List.length_cons,List.length_nil];rfl
 unfold r_9 y_4 t_0;rw [show ar_8 4 "Living" [.int p,.int s,.int m]= [.lt (.obj "Living" [] []),.sh (.int p),.sh (.int s),.sh (.int m)] from rfl,Bk a1];simp only [List.nil_append,W.d_sh];rw [Bk a2];simp only [List.cons_append,List.nil_append,W.d_sh];rw [Bk a3];simp only [List.cons_append,List.nil_append,W.d_sh];rw [Bk a4];simp only [List.cons_append,List.nil_append,W.d_ow];rw [a5];simp only [if_true]
section
variable{α:Type}
theorem z_4(k:Af):Bh ([]:List (Af×α)) k=none:=rfl
theorem Em(x:Af)(v:α)(l:List (Af×α))(k:Af):Bh ((x,v)::l) k=if x=k then some v else Bh l k:=by
 unfold Bh;rw [List.find?_cons]
 by_cases h:x=k
 ·rw [if_pos h,decide_eq_true h];rfl
 ·rw [if_neg h,decide_eq_false h]
theorem bo_9(l r:List (Af×α))(k:Af):Bh (l ++ r) k=(Bh l k).or (Bh r k):=by
 induction l with
 |nil=>rfl
 |cons q l ih=>
  obtain⟨x,v⟩:=q;rw [List.cons_append,Em,Em,ih]
  split <;> rfl
theorem bp_0(v:α)(k k':Af):∀l:List (Af×α),Bh (Cu l k v) k'=if k'=k then(Bh l k).map (λ_=>v) else Bh l k'
 | []=>by unfold Cu;simp [z_4]
 |(x,u)::l=>by
  unfold Cu
  by_cases h:x=k
  ·rw [if_pos h,Em,Em,if_pos h]
   by_cases h':k'=k
   ·rw [if_pos h',if_pos (h.trans h'.symm)];rfl
   ·rw [if_neg h',if_neg (λe=>h' (e.symm.trans h)),Em,if_neg (λe=>h' (e.symm.trans h))]
  ·rw [if_neg h,Em,bp_0 v k k' l,Em,if_neg h]
   by_cases h':k'=k
   ·rw [if_pos h',if_pos h',if_neg (λe=>h (e.trans h'))]
   ·rw [if_neg h',if_neg h',Em]
theorem bb_9{l:List (Af×α)}{k:Af}{v:α}(h:Bh l k=some v):(k,v)∈l:=by
 induction l with
 |nil=>cases h
 |cons q l ih=>
  obtain⟨x,u⟩:=q;rw [Em] at h
  split at h
  ·rename_i e;cases h;subst e;exact List.mem_cons_self
  ·exact List.mem_cons_of_mem _ (ih h)
theorem cb_8{v:α}{k:Af}{q:Af×α}:∀{l:List (Af×α)},q∈Cu l k v->q∈l\/q.2=v
 | [],h=>by unfold Cu at h;cases h
 |(x,u)::l,h=>by
  unfold Cu at h
  split at h
  ·rcases List.mem_cons.mp h with e|e
   ·subst e;exact .inr rfl
   ·exact .inl (List.mem_cons_of_mem _ e)
  ·rcases List.mem_cons.mp h with e|e
   ·subst e;exact .inl List.mem_cons_self
   ·rcases cb_8 e with e|e
    ·exact .inl (List.mem_cons_of_mem _ e)
    ·exact .inr e
theorem dd_9(v:α)(k:Af)(l:List (Af×α)):(Cu l k v).length=l.length:=by
 have:=congrArg List.length (ai_4 l k v);simpa using this
end
theorem cb_9(k:Af):∀zm:List (Af×Tn),Bh (Tn.ks zm) k=(Bh zm k).map Tn.d
 | []=>rfl
 |(x,t)::zm=>by
  unfold Tn.ks;rw [Em,Em,cb_9 k zm]
  split <;> rfl
abbrev Nb:=List (D×Nat)
def nbT(l:Nb):List D:=l.map λx=> .tup [x.1,.int (x.2:Int)]
abbrev Ed:=D×Nat×Nat
def Dm(E:List Ed)(q:Nat):Nb:=E.flatMap λe=>(if e.2.1=q then [(e.1,e.2.2)] else []) ++ (if e.2.2=q then [(e.1,e.2.1)] else [])
def edD(e:Ed):D:=.tup [e.1,.tup [.int (e.2.1:Int),.int (e.2.2:Int)]]
structure WK(zm:List (Af×Tn))(N:Nat->Nb):Prop where
 at_:∀q:Nat,(Bh zm (.inl (q:Int))).getD (.lst [])=.lst ((nbT (N q)).map .sh)
 li:∀q∈zm,∃l:Nb,q.2=.lst ((nbT l).map .sh)/\∀x∈l,Bv x.1
theorem WK.plain{zm:List (Af×Tn)}{N:Nat->Nb}(h:WK zm N):m_7 (.dic zm)=true:=by
 have:∀l:Nb,(∀x∈l,Bv x.1)->k_7 ((nbT l).map .sh)=true:=λl hl=>au_7 (au_5 λx hx=>by
  obtain⟨y,hy,rfl⟩:=List.mem_map.mp hx;have:=aj_8 (hl y hy);simp only [Fs,Fc,this,Bool.and_self])
 have all:∀ks:List (Af×Tn),(∀q∈ks,q∈zm)->v_7 ks=true:=by
  intro ks
  induction ks with
  |nil=>intro _;rfl
  |cons q ks ih=>
   intro hq;obtain⟨x,t⟩:=q;obtain⟨l,e,hl⟩:=h.li _ (hq _ List.mem_cons_self);simp only at e;subst e;unfold v_7 m_7;rw [this l hl,ih λq hq'=>hq q (List.mem_cons_of_mem _ hq')];rfl
 unfold m_7;exact all zm λ_ h=>h
def addN(N:Nat->Nb)(a:Nat)(k:D)(b:Nat):Nat->Nb:=λq=>if q=a then N q ++ [(k,b)] else N q
theorem cc_0(zm:List (Af×Tn))(k k':Af):Bh (sdK zm k) k'=if k'=k then some ((Bh zm k).getD (.lst [])) else Bh zm k':=by
 unfold sdK;cases h:Bh zm k with
 |some v=>
  by_cases e:k'=k
  ·rw [if_pos e,e];exact h
  ·rw [if_neg e]
 |none=>
  simp only;rw [bo_9,Em,z_4]
  by_cases e:k'=k
  ·rw [if_pos e,e,h,if_pos rfl];rfl
  ·rw [if_neg e,if_neg (λz=>e z.symm)];cases Bh zm k' <;> rfl
theorem ct_5{i:Nat}{f1 f2:FE}{Δ:SE}{zm:List (Af×Tn)}{N:Nat->Nb}{a b:Nat}{k:D}(w:WK zm N)(hk:Bv k)(ht:(Δ[i]?).bind Sl.tree=some (.dic zm,false))(h1:f1 (Bb Δ)=.ok (.sh (.int (a:Int))))(h2:f2 (As Δ)=.ok (.sh (.tup [k,.int (b:Int)])))(hl:zm.length < 10000)(hn:(N a).length < 10000):
  ∃kts',sSdb i f1 f2 Δ=.nx (Δ.set i (.tr (.dic kts')))/\WK kts' (addN N a k b)/\kts'.length<=zm.length + 1:=by
 have hv:=cc_0 zm (.inl (a:Int)) (.inl (a:Int));rw [if_pos rfl,w.at_ a] at hv;refine⟨Cu (sdK zm (.inl (a:Int))) (.inl (a:Int)) (.lst ((nbT (N a)).map .sh ++ [.sh (.tup [k,.int (b:Int)])])), ?_,⟨λq=> ?_,λq hq=> ?_⟩, ?_⟩
 ·unfold sSdb;rw [ht];simp only [h1,W.d_sh,Ee];rw [if_pos (by omega),hv];simp only;rw [if_pos (by simp [nbT];omega),h2];rfl
 ·rw [bp_0,hv];unfold addN
  by_cases e:q=a
  ·subst e;rw [if_pos rfl,if_pos rfl];simp only [Option.map_some,Option.getD_some,nbT,List.map_append];rfl
  ·have e':(Sum.inl (q:Int):Af)≠ .inl (a:Int):=λz=>e (by injection z with z;omega);rw [if_neg e',if_neg e,cc_0,if_neg e'];exact w.at_ q
 ·have hsd:∀q∈sdK zm (.inl (a:Int)),∃l:Nb,q.2=.lst ((nbT l).map .sh)/\∀x∈l,Bv x.1:=λq hq=>by
   unfold sdK at hq
   split at hq
   ·exact w.li q hq
   ·rcases List.mem_append.mp hq with h|h
    ·exact w.li q h
    ·rw [List.mem_singleton.mp h];exact⟨[],rfl,λ_ h=>by cases h⟩
  rcases cb_8 hq with h|h
  ·exact hsd q h
  ·obtain⟨l,e,hl'⟩:=hsd _ (bb_9 hv);refine⟨l ++ [(k,b)], ?_,λx hx=> ?_⟩
   ·rw [h];simp only at e;injection e with e
    rw [e];simp only [nbT,List.map_append];rfl
   ·rcases List.mem_append.mp hx with h|h
    ·exact hl' x h
    ·rw [List.mem_singleton.mp h];exact hk
 ·rw [dd_9];unfold sdK
  split
  ·omega
  ·simp
theorem dn_9{a b:D}(ha:Bv a)(hb:Bv b):Cn a b=.ok (.sh (.bl (!decide (Bf a=Bf b)))):=by
 have hc:eqC a b=true:=by unfold eqC;rw [(bh_0 ha).1,(bh_0 hb).1,(bh_0 ha).2];rfl
 have he:Db a b=decide (Bf a=Bf b):=by
  have q:=dd_1 ha hb
  by_cases e:a=b
  ·rw [show Db a b=true from q.mpr e,e];simp
  ·have:Db a b=false:=by
    cases h:Db a b with
    |false=>rfl
    |true=>exact absurd (q.mp h) e
   rw [this,decide_eq_false λz=>e (ag_2 ha hb z)]
 rcases ha with⟨n,rfl,_⟩|⟨l,rfl,_⟩ <;> rcases hb with⟨n',rfl,_⟩|⟨l',rfl,_⟩
 ·show(if eqC (.int n) (.int n')=true then R.ok (W.sh (.bl (!Db (.int n) (.int n')))) else .no)=_;rw [if_pos hc,he]
 ·show(if eqC (.int n) (.str (Bx l'))=true then R.ok (W.sh (.bl (!Db (.int n) (.str (Bx l'))))) else .no)=_;rw [if_pos hc,he]
 ·show(if eqC (.str (Bx l)) (.int n')=true then R.ok (W.sh (.bl (!Db (.str (Bx l)) (.int n')))) else .no)=_;rw [if_pos hc,he]
 ·rw [bz_4]
  by_cases e:Bx l=Bx l'
  ·rw [e];simp
  ·rw [decide_eq_false e,decide_eq_false λz=>e (by injection z)]
def WD(wk:List (Af×D))(N:Nat->Nb):Prop:=∀q:Nat,(Bh wk (.inl (q:Int))).getD (.lst [])=.lst (nbT (N q))
theorem WK.d{zm:List (Af×Tn)}{N:Nat->Nb}(h:WK zm N):WD (Tn.ks zm) N:=λq=>by
 have:=h.at_ q;rw [cb_9];cases e:Bh zm (.inl (q:Int)) with
 |some t=>
  rw [e] at this;simp only [Option.getD_some] at this;rw [this];simp only [Option.map_some,Option.getD_some,Tn.d,Tn.ds_sh]
 |none=>
  rw [e] at this;simp only [Option.getD_none] at this;injection this with this
  have:nbT (N q)= []:=List.map_eq_nil_iff.mp this.symm;rw [this];rfl
theorem ct_6{E:List Ed}{i:Nat}{e:Ed}(h:E[i]? =some e):Dm (E.take (i + 1))=λq=>Dm (E.take i) q ++ ((if e.2.1=q then [(e.1,e.2.2)] else []) ++ (if e.2.2=q then [(e.1,e.2.1)] else [])):=by
 funext q
 unfold Dm;rw [List.take_add_one,h,List.flatMap_append];simp
theorem cc_1(E:List Ed)(q:Nat):(Dm E q).length<=2 * E.length:=by
 induction E with
 |nil=>simp [Dm]
 |cons e E ih=>
  unfold Dm at ih⊢;rw [List.flatMap_cons,List.length_append,List.length_append,List.length_cons];have a1:(if e.2.1=q then [(e.1,e.2.2)] else []).length<=1:=by split <;> simp
  have a2:(if e.2.2=q then [(e.1,e.2.1)] else []).length<=1:=by split <;> simp
  omega
theorem bv_2(E:List Ed)(hl:E.length<=100)(hk:∀e∈E,Bv e.1/\e.2.1≠e.2.2):∃w wk,aa_8 [.lst (E.map edD)]=.ok w/\y_0 w=true/\w.d=.dic wk/\WD wk (Dm E):=by
 let I:Nat->SE->Prop:=λi Δ=>∃(sl a2 a3:Sl) (zm:List (Af×Tn)),Δ= [.sh (.lst (E.map edD)),sl,a2,a3]/\((sl=.ow (.dic [])/\zm= [])\/sl=.tr (.dic zm))/\WK zm (Dm (E.take i))/\zm.length<=2 * i
 obtain⟨Δ',e,sl,a2,a3,zm,rfl,hs,hw,_⟩:=q_0 (gV2 2 3) al_9 I (ds:=E.map edD) (Δ:=[.sh (.lst (E.map edD)),.ow (.dic []),.no,.no])
  ⟨_,_,_,[],rfl,.inl ⟨rfl,rfl⟩,⟨λq=>rfl,λq h=>by cases h⟩,Nat.le_refl _⟩
  (λi d Δ hd ⟨sl,a2,a3,zm,e,hs,hw,hn⟩=>by
   subst e;rw [List.getElem?_map] at hd;cases he:E[i]? with
   |none=>rw [he] at hd;cases hd
   |some ed=>
    rw [he] at hd;cases hd;obtain⟨k,a,b⟩:=ed;obtain⟨hkk,hab⟩:=hk _ (List.mem_of_getElem? he);simp only at hkk hab;have hi:i < E.length:=(List.getElem?_eq_some_iff.mp he).1;have tr:sl.tree=some (.dic zm,false):=by
     rcases hs with⟨rfl,rfl⟩|rfl <;> rfl
    have nl:∀q,(Dm (E.take i) q).length<=200:=λq=>by
     have:=cc_1 (E.take i) q;rw [List.length_take] at this;omega
    have ia0:Be (.tup [.int (a:Int),.int (b:Int)]) (.int 0)=.ok (.sh (.int (a:Int))):=rfl;have ia1:Be (.tup [.int (a:Int),.int (b:Int)]) (.int 1)=.ok (.sh (.int (b:Int))):=rfl;obtain⟨k1,g1,w1,l1⟩:=ct_5 (i:=1) (Δ:=[.sh (.lst (E.map edD)),sl,.sh k,.sh (.tup [.int (a:Int),.int (b:Int)])]) (f1:=Ae Be (Aa 3) (eC (.int 0))) (f2:=Cg (Ab (Aa 2) (Ab (Ae Be (Aa 3) (eC (.int 1))) Ac))) (a:=a) (b:=b) (k:=k) hw hkk (by simpa using tr)
     (by simp_arith [Ao,ia0,Bb,List.map_cons,Sl.any]) (by simp_arith [Ao,ia1,As,List.map_cons,Sl.pub]) (by omega) (by have:=nl a;omega)
    obtain⟨k2,g2,w2,l2⟩:=ct_5 (i:=1) (Δ:=[.sh (.lst (E.map edD)),.tr (.dic k1),.sh k,.sh (.tup [.int (a:Int),.int (b:Int)])]) (f1:=Ae Be (Aa 3) (eC (.int 1))) (f2:=Cg (Ab (Aa 2) (Ab (Ae Be (Aa 3) (eC (.int 0))) Ac))) (a:=b) (b:=a) (k:=k) w1 hkk rfl
     (by simp_arith [Ao,ia1,Bb,List.map_cons,Sl.any]) (by simp_arith [Ao,ia0,As,List.map_cons,Sl.pub]) (by omega) (by
      have:=nl b;unfold addN
      split
      ·rw [List.length_append];simp only [List.length_cons,List.length_nil];omega
      ·omega)
    refine⟨_,rfl,_,.inl ((Bk g1).trans g2),_,_,_,k2,rfl,.inr rfl, ?_,by omega⟩;rw [ct_6 he];have:addN (addN (Dm (E.take i)) a k b) b k a=λq=>Dm (E.take i) q ++ ((if a=q then [(k,b)] else []) ++ (if b=q then [(k,a)] else [])):=by
     funext q
     unfold addN
     by_cases h1:a=q
     ·subst h1;rw [if_neg hab,if_pos rfl,if_pos rfl,if_neg λz=>hab z.symm,List.append_nil]
     ·by_cases h2:b=q
      ·subst h2;rw [if_pos rfl,if_neg (λz=>hab z.symm),if_neg hab,if_pos rfl];rfl
      ·rw [if_neg λz=>h2 z.symm,if_neg λz=>h1 z.symm,if_neg h1,if_neg h2,List.append_nil,List.append_nil]
    rw [<-this];exact w2)
 rw [List.length_map,List.take_length] at hw;have q:aj_5 (Bd 4 [.lst (E.map edD)])=Cl 1 [.sh (.lst (E.map edD)),sl,a2,a3]:=by
  unfold aj_5;rw [show Bd 4 [D.lst (E.map edD)]= [.sh (.lst (E.map edD)),.no,.no,.no] from rfl];refine(Bk (Δ':=[.sh (.lst (E.map edD)),.ow (.dic []),.no,.no]) rfl).trans ?_;refine Bk ?_;exact e
 rcases hs with⟨rfl,rfl⟩|rfl
 ·exact⟨.ow (.dic []),[],s_8 q,rfl,rfl,hw.d⟩
 ·exact⟨.tr (.dic zm),Tn.ks zm,s_8 q,hw.plain,rfl,hw.d⟩
section
variable{p s m:Int}{T:List Int}{kds:List (Af×D)}{ks:List D}{d:D}
def Fv(ks:List D)(d:D)(s p:Int):List Ed:=(ks.filter λx=> !decide (Bf x=Bf d)).map λx=>(x,pA x s p,pB x s p)
theorem bv_3(z:Szs p s m T)(h:KOk kds ks)(hd:Bv d):∃w wk,b_1 [Bi p s m T kds,d]=.ok w/\y_0 w=true/\w.d=.dic wk/\WD wk (Dm (Fv ks d s p)):=by
 have zk:=h.len;obtain⟨w,wk,e,pw,dw,hw⟩:=bv_2 (Fv ks d s p) (by unfold Fv;rw [List.length_map];exact Nat.le_trans (List.length_filter_le _ _) (by omega)) (λx hx=>by
  obtain⟨y,hy,rfl⟩:=List.mem_map.mp hx;have a:=au_2 y s z.p0;have b:=au_3 y s z.p0;exact⟨h.key y ((List.mem_filter.mp hy).1),by simp only;omega⟩)
 refine⟨w,wk, ?_,pw,dw,hw⟩;have ec:=m_2 (fg:=gC 2) (p:=f_3) (f:=f_2) (δ:=[some (Bi p s m T kds),some d,none]) (λx=> !decide (Bf x=Bf d)) (λx=>edD (x,pA x s p,pB x s p)) ks (λx hx=>by
  refine⟨[some (Bi p s m T kds),some d,some x],rfl, ?_,λ_=> ?_⟩
  ·simp_arith [f_3,Ao,dn_9 (h.key x hx) hd]
  ·have hp:=aa_9 (m:=m) (T:=T) (kds:=kds) (h.key x hx) z.s0 z.s1 z.p0 (by have:=z.p1;omega);rw [w_3 x s z.p0] at hp;have e2:By "places" 1 [("Living",b_5)] (Aa 0) (Ab (Aa 2) Ac) [some (Bi p s m T kds),some d,some x]=.ok (.sh (.tup (zi [pA x s p,pB x s p]))):=(met1 (w:=.sh x) rfl rfl (by decide +kernel)).trans hp;exact⟨.sh (.tup [x,.tup (zi [pA x s p,pB x s p])]),by simp_arith [f_2,Ao,e2],rfl⟩)
 have ei:x_9 (Co ["Living"] "by_key" (Aa 0)) [some (Bi p s m T kds),some d]=.ok ks:=by
  have e1:Co ["Living"] "by_key" (Aa 0) [some (Bi p s m T kds),some d]=.ok (.sh (.dic kds)):=fld rfl rfl;unfold x_9;rw [e1];show R.ok (kds.map λp=>kD p.1)=_;rw [h.ds]
 have e3:=o_2 (m:=1) (fg:=gC 2) (p:=f_3) (f:=f_2) ei (by omega) ec;have ee:((ks.filter λx=> !decide (Bf x=Bf d)).map λx=>edD (x,pA x s p,pB x s p))=(Fv ks d s p).map edD:=by
  unfold Fv;rw [List.map_map];rfl
 rw [ee] at e3
 simp_arith [b_1,n_3,Ao,e3,e]
end
theorem bv_4:∀(M:Nat) (l:List Nat),l.Nodup->(∀x∈l,x < M)->l.length<=M
 |0,l,_,h=>by
  cases l with
  |nil=>exact Nat.le_refl _
  |cons a l=>exact absurd (h a List.mem_cons_self) (Nat.not_lt_zero _)
 |M + 1,l,nd,h=>by
  have h1:=bv_4 M (l.erase M) (nd.erase M) λx hx=>by
   have:=nd.mem_erase_iff.mp hx;have:=h x this.2;omega
  have h2:=List.length_erase (a:=M) (l:=l)
  split at h2 <;> omega
abbrev Bs:=List (Nat×Option (D×Nat))
def bV:Option (D×Nat)->D
 |none=> .non
 |some (k,q)=> .tup [k,.int (q:Int)]
def bD(B:Bs):List (Af×D):=B.map λe=>(.inl (e.1:Int),bV e.2)
abbrev bK(B:Bs):List Nat:=B.map (·.1)
theorem bc_0{α:Type}(x:Af)(v:α)(l:List (Af×α))(k:Af):Cz ((x,v)::l) k=(decide (x=k) || Cz l k):=by
 unfold Cz;rw [Em]
 by_cases h:x=k
 ·rw [if_pos h,decide_eq_true h];rfl
 ·rw [if_neg h,decide_eq_false h];rfl
theorem bv_5(B:Bs)(o:Nat):Cz (bD B) (.inl (o:Int))=decide (o∈bK B):=by
 induction B with
 |nil=>rfl
 |cons e B ih=>
  show Cz ((.inl (e.1:Int),bV e.2)::bD B) _=_;rw [bc_0,ih];have:(Sum.inl (e.1:Int):Af)=.inl (o:Int)↔o=e.1:=⟨λz=>by injection z with z;omega,λz=>by rw [z]⟩;rw [decide_eq_decide.mpr this];rw [<-Bool.decide_or];exact decide_eq_decide.mpr List.mem_cons.symm
theorem bh_3{α:Type}(l:List (Af×α))(k:Af):(l.any λkv=>decide (kv.1=k))=Cz l k:=by
 induction l with
 |nil=>rfl
 |cons q l ih=>
  obtain⟨x,v⟩:=q;rw [bc_0,List.any_cons,ih]
theorem au_8{α:Type}{l:List (Af×α)}{k:Af}{v:α}(h:Cz l k=false):Cr l k v=l ++ [(k,v)]:=by
 unfold Cr;rw [bh_3,h,if_neg Bool.false_ne_true]
inductive Grown(N:Nat->Nb)(s:Nat):Bs->Prop
 |base:Grown N s [(s,none)]
 |more {B:Bs} {q:Nat} {x:D×Nat}:Grown N s B->q∈bK B->x∈N q->x.2∉bK B->Grown N s (B ++ [(x.2,some (x.1,q))])
section
variable{N:Nat->Nb}{s:Nat}{B:Bs}
theorem z_5(B C:Bs):bK (B ++ C)=bK B ++ bK C:=List.map_append
theorem Grown.start(g:Grown N s B):s∈bK B:=by
 induction g with
 |base=>exact List.mem_singleton.mpr rfl
 |more _ _ _ _ ih=>rw [z_5];exact List.mem_append_left _ ih
theorem Grown.nd(g:Grown N s B):(bK B).Nodup:=by
 induction g with
 |base=>simp [bK]
 |more _ _ _ h ih=>
  rw [z_5];refine List.nodup_append.mpr ⟨ih,by simp [bK],λa ha b hb e=> ?_⟩;have:b=_:=List.mem_singleton.mp hb;subst e;subst this;exact h ha
theorem Grown.all(g:Grown N s B)(P:Nat->Prop)(h0:P s)(h:∀q,P q->∀x∈N q,P x.2):∀q∈bK B,P q:=by
 induction g with
 |base=>intro q hq;rw [List.mem_singleton.mp hq];exact h0
 |more _ hq hx _ ih=>
  intro q' hq';rw [z_5] at hq';rcases List.mem_append.mp hq' with e|e
  ·exact ih q' e
  ·rw [List.mem_singleton.mp e];exact h _ (ih _ hq) _ hx
theorem au_9{wk:List (Af×D)}{st q:Nat}:∀(l:Nb) (B:Bs) (Q:List Nat) (a5 a6:Sl),(∀x∈l,x∈N q)->Grown N s B->q∈bK B->B.length + l.length<=10000->Q.length<=B.length->
  ∃C a5' a6',Dw (gV2 5 6) d_7 (nbT l) [.sh (.int (st:Int)),.sh (.dic wk),.ow (.dic (bD B)),.ow (.lst (zi Q)),.sh (.int (q:Int)),a5,a6]=.nx [.sh (.int (st:Int)),.sh (.dic wk),.ow (.dic (bD (B ++ C))),.ow (.lst (zi (Q ++ bK C))),.sh (.int (q:Int)),a5',a6']/\Grown N s (B ++ C)/\∀x∈l,x.2∈bK (B ++ C)
 | [],B,Q,a5,a6,_,g,_,_,_=>⟨[],a5,a6,by rw [List.append_nil,show bK []= [] from rfl,List.append_nil];rfl,by rw [List.append_nil];exact g,λx h=>by cases h⟩
 |x::l,B,Q,a5,a6,hl,g,hq,hn,hQ=>by
  have hx:=hl x List.mem_cons_self;have hl':∀y∈l,y∈N q:=λy hy=>hl y (List.mem_cons_of_mem _ hy);rw [List.length_cons] at hn;have hb:=bv_5 B x.2;have ht:∀g1 g2:FS,Bu [2,6] (Ak (Ae (Eg true) (Aa 6) (Aa 2))) g1 g2 [.sh (.int (st:Int)),.sh (.dic wk),.ow (.dic (bD B)),.ow (.lst (zi Q)),.sh (.int (q:Int)),.sh x.1,.sh (.int (x.2:Int))]=if x.2∈bK B then g2 [.sh (.int (st:Int)),.sh (.dic wk),.ow (.dic (bD B)),.ow (.lst (zi Q)),.sh (.int (q:Int)),.sh x.1,.sh (.int (x.2:Int))] else g1 [.sh (.int (st:Int)),.sh (.dic wk),.ow (.dic (bD B)),.ow (.lst (zi Q)),.sh (.int (q:Int)),.sh x.1,.sh (.int (x.2:Int))]:=λg1 g2=>by
   by_cases hm:x.2∈bK B
   ·rw [if_pos hm];rw [decide_eq_true hm] at hb
    simp_arith [Ao,Sl.any,Eg,Ee,hb,if_true,Bool.not_true]
   ·rw [if_neg hm];rw [decide_eq_false hm] at hb
    simp_arith [Ao,Sl.any,Eg,Ee,hb,if_true,Bool.not_false]
  have one:∀Δ2,d_7 [.sh (.int (st:Int)),.sh (.dic wk),.ow (.dic (bD B)),.ow (.lst (zi Q)),.sh (.int (q:Int)),.sh x.1,.sh (.int (x.2:Int))]=.nx Δ2->Dw (gV2 5 6) d_7 (nbT (x::l)) [.sh (.int (st:Int)),.sh (.dic wk),.ow (.dic (bD B)),.ow (.lst (zi Q)),.sh (.int (q:Int)),a5,a6]=Dw (gV2 5 6) d_7 (nbT l) Δ2:=λ Δ2 e=>by
   show(match d_7 [.sh (.int (st:Int)),.sh (.dic wk),.ow (.dic (bD B)),.ow (.lst (zi Q)),.sh (.int (q:Int)),.sh x.1,.sh (.int (x.2:Int))] with
    | .nx Δ2=>Dw (gV2 5 6) d_7 (nbT l) Δ2
    | .ct Δ2=>Dw (gV2 5 6) d_7 (nbT l) Δ2
    | .bk Δ2=> .nx Δ2
    |r=>r)=_
   rw [e]
  by_cases hm:x.2∈bK B
  ·have e1:d_7 [.sh (.int (st:Int)),.sh (.dic wk),.ow (.dic (bD B)),.ow (.lst (zi Q)),.sh (.int (q:Int)),.sh x.1,.sh (.int (x.2:Int))]=.nx [.sh (.int (st:Int)),.sh (.dic wk),.ow (.dic (bD B)),.ow (.lst (zi Q)),.sh (.int (q:Int)),.sh x.1,.sh (.int (x.2:Int))]:=by
    unfold d_7;rw [ht,if_pos hm];rfl
   obtain⟨C,a5',a6',e,g',h'⟩:=au_9 l B Q (.sh x.1) (.sh (.int (x.2:Int))) hl' g hq (by omega) hQ;refine⟨C,a5',a6',(one _ e1).trans e,g',λy hy=> ?_⟩;rcases List.mem_cons.mp hy with rfl|hy
   ·rw [z_5];exact List.mem_append_left _ hm
   ·exact h' y hy
  ·have e1:d_7 [.sh (.int (st:Int)),.sh (.dic wk),.ow (.dic (bD B)),.ow (.lst (zi Q)),.sh (.int (q:Int)),.sh x.1,.sh (.int (x.2:Int))]=.nx [.sh (.int (st:Int)),.sh (.dic wk),.ow (.dic (bD (B ++ [(x.2,some (x.1,q))]))),.ow (.lst (zi (Q ++ [x.2]))),.sh (.int (q:Int)),.sh x.1,.sh (.int (x.2:Int))]:=by
    unfold d_7;rw [ht,if_neg hm];rw [decide_eq_false hm] at hb;have hz:(bD B).length < 16777216:=by unfold bD;rw [List.length_map];omega
    have hy:(zi Q).length < 16777216:=by unfold zi;rw [List.length_map];omega
    have p1:Fh 2 [4,5] (Aa 6) (Cg (Ab (Aa 5) (Ab (Aa 4) Ac))) [.sh (.int (st:Int)),.sh (.dic wk),.ow (.dic (bD B)),.ow (.lst (zi Q)),.sh (.int (q:Int)),.sh x.1,.sh (.int (x.2:Int))]=.nx [.sh (.int (st:Int)),.sh (.dic wk),.ow (.dic (bD (B ++ [(x.2,some (x.1,q))]))),.ow (.lst (zi Q)),.sh (.int (q:Int)),.sh x.1,.sh (.int (x.2:Int))]:=by
     have e0:Cr (bD B) (.inl (x.2:Int)) (.tup [x.1,.int (q:Int)])=bD (B ++ [(x.2,some (x.1,q))]):=by
      rw [au_8 hb];unfold bD;rw [List.map_append];rfl
     rw [<-e0];unfold Fh;show(match Cg (Ab (Aa 5) (Ab (Aa 4) Ac)) [some (.int (st:Int)),some (.dic wk),none,none,some (.int (q:Int)),some x.1,some (.int (x.2:Int))] with
      | .ok w=>(if(bD B).length < 16777216 then Fl.nx [.sh (.int (st:Int)),.sh (.dic wk),.ow (.dic (Cr (bD B) (.inl (x.2:Int)) w.d)),.ow (.lst (zi Q)),.sh (.int (q:Int)),.sh x.1,.sh (.int (x.2:Int))] else .no)
      |_=> .no)=_
     simp_arith [Ao,if_pos hz,W.d_sh]
    rw [Bk p1];unfold sApp;show(if(zi Q).length < 16777216 then Fl.nx [.sh (.int (st:Int)),.sh (.dic wk),.ow (.dic (bD (B ++ [(x.2,some (x.1,q))]))),.ow (.lst (zi Q ++ [.int (x.2:Int)])),.sh (.int (q:Int)),.sh x.1,.sh (.int (x.2:Int))] else .no)=_;rw [if_pos hy];unfold zi;rw [List.map_append];rfl
   obtain⟨C,a5',a6',e,g',h'⟩:=au_9 l (B ++ [(x.2,some (x.1,q))]) (Q ++ [x.2]) (.sh x.1) (.sh (.int (x.2:Int))) hl' (g.more hq hx hm) (by rw [z_5];exact List.mem_append_left _ hq) (by rw [List.length_append];simp only [List.length_cons,List.length_nil];omega) (by rw [List.length_append,List.length_append];simp only [List.length_cons,List.length_nil];omega);refine⟨(x.2,some (x.1,q))::C,a5',a6',(one _ e1).trans (e.trans ?_), ?_,λy hy=> ?_⟩
   ·rw [List.append_assoc,List.append_assoc];rfl
   ·rw [List.append_assoc] at g';exact g'
   ·rw [List.append_assoc] at h';rcases List.mem_cons.mp hy with rfl|hy
    ·rw [z_5];exact List.mem_append_right _ List.mem_cons_self
    ·exact h' y hy
end
section
variable{N:Nat->Nb}{s:Nat}{wk:List (Af×D)}
theorem ct_7(wd:WD wk N)(q:Nat)(a0 a2 a3 a5 a6:Option D):Es (bk_5 (Aa 1) (Aa 4) (Dq Ac)) [a0,some (.dic wk),a2,a3,some (.int (q:Int)),a5,a6]=.ok (nbT (N q)):=by
 have h:=wd q;cases e:Bh wk (.inl (q:Int)) with
 |some v=>
  rw [e] at h;simp only [Option.getD_some] at h;subst h
  simp_arith [Ao,bk_5,bz_1,Ee,e]
 |none=>
  rw [e] at h;simp only [Option.getD_none] at h;injection h with h
  simp_arith [Ao,bk_5,bz_1,Ee,e,<-h]
theorem ci_2(wd:WD wk N){M:Nat}(hM:M<=1000)(hN:∀q,∀x∈N q,x.2 < M)(hn:∀q,(N q).length<=1000)(hs:s < M):∀(n:Nat) (P Q:List Nat) (B:Bs) (a4 a5 a6:Sl),bK B=P ++ Q->Grown N s B->(∀q∈P,∀x∈N q,x.2∈bK B)->M < n + P.length->
  ∃B' a4' a5' a6',t_3 [3] p_7 p_8 n [.sh (.int (s:Int)),.sh (.dic wk),.ow (.dic (bD B)),.ow (.lst (zi Q)),a4,a5,a6]=.nx [.sh (.int (s:Int)),.sh (.dic wk),.ow (.dic (bD B')),.ow (.lst []),a4',a5',a6']/\Grown N s B'/\∀q∈bK B',∀x∈N q,x.2∈bK B':=by
 intro n;have small:∀B,Grown N s B->B.length<=M:=λB g=>by
  have:=bv_4 M (bK B) g.nd (g.all (· < M) hs λq _ x hx=>hN q x hx)
  rwa [List.length_map] at this
 have bl:∀B P Q,bK B=P ++ Q->B.length=P.length + Q.length:=λB P Q h=>by
  have:=congrArg List.length h
  rwa [List.length_map,List.length_append] at this
 induction n with
 |zero=>
  intro P Q B a4 a5 a6 hb g _ hm;have:=small B g;have:=bl B P Q hb;omega
 |succ n ih=>
  intro P Q B a4 a5 a6 hb g hc hm;have h1:=small B g;have h2:=bl B P Q hb;have zl:(zi Q).length=Q.length:=by unfold zi;rw [List.length_map]
  have ht:p_7 (Bb [.sh (.int (s:Int)),.sh (.dic wk),.ow (.dic (bD B)),.ow (.lst (zi Q)),a4,a5,a6])=.ok (decide ((0:Int) < (Q.length:Int))):=by
   simp_arith [p_7,Ao,s_7,df_4,zl]
  unfold t_3;rw [ht];cases Q with
  |nil=>
   refine⟨B,a4,a5,a6,rfl,g, ?_⟩;rw [List.append_nil] at hb;rw [hb];rw [hb] at hc;exact hc
  |cons q Q=>
   have hq:q∈bK B:=by rw [hb];simp
   rw [List.length_cons] at h2;have hnq:=hn q;have p1:bn_9 4 3 (eC (.int 0)) [.sh (.int (s:Int)),.sh (.dic wk),.ow (.dic (bD B)),.ow (.lst (zi (q::Q))),a4,a5,a6]=.nx [.sh (.int (s:Int)),.sh (.dic wk),.ow (.dic (bD B)),.ow (.lst (zi Q)),.sh (.int (q:Int)),a5,a6]:=by
    have zc:zi (q::Q)=.int (q:Int)::zi Q:=rfl;have z2:(zi Q).length=Q.length:=by unfold zi;rw [List.length_map]
    rw [zc];unfold bn_9
    simp_arith [Ao]
    rw [if_pos ⟨by decide,by rw [z2];omega,by rw [z2];omega⟩];rfl
   obtain⟨C,a5',a6',e,g',h'⟩:=au_9 (wk:=wk) (st:=s) (q:=q) (N q) B Q a5 a6 (λ_ h=>h) g hq (by omega) (by omega);have p2:p_8 [.sh (.int (s:Int)),.sh (.dic wk),.ow (.dic (bD B)),.ow (.lst (zi (q::Q))),a4,a5,a6]=.nx [.sh (.int (s:Int)),.sh (.dic wk),.ow (.dic (bD (B ++ C))),.ow (.lst (zi (Q ++ bK C))),.sh (.int (q:Int)),a5',a6']:=by
    unfold p_8;rw [Bk p1];unfold Du;rw [show As [.sh (.int (s:Int)),.sh (.dic wk),.ow (.dic (bD B)),.ow (.lst (zi Q)),.sh (.int (q:Int)),a5,a6]= [some (.int (s:Int)),some (.dic wk),none,none,some (.int (q:Int)),a5.pub,a6.pub] from rfl,ct_7 wd];exact e
   have h0:(0:Int) < ((q::Q).length:Int):=by rw [List.length_cons];omega
   rw [decide_eq_true h0];simp only [if_true,p2];obtain⟨B',b4,b5,b6,e2,g2,h2'⟩:=ih (P ++ [q]) (Q ++ bK C) (B ++ C) (.sh (.int (q:Int))) a5' a6' (by rw [z_5,hb];simp) g' (λy hy x hx=>by
    rcases List.mem_append.mp hy with h|h
    ·rw [z_5];exact List.mem_append_left _ (hc y h x hx)
    ·rw [List.mem_singleton.mp h] at hx;exact h' x hx) (by rw [List.length_append];simp only [List.length_cons,List.length_nil];omega)
   exact⟨B',b4,b5,b6,e2,g2,h2'⟩
theorem bp_1(wd:WD wk N){M:Nat}(hM:M<=1000)(hN:∀q,∀x∈N q,x.2 < M)(hn:∀q,(N q).length<=1000)(hs:s < M):
  ∃B,j_4 [.int (s:Int),.dic wk]=.ok (.ow (.dic (bD B)))/\Grown N s B/\(∀q∈bK B,∀x∈N q,x.2∈bK B)/\B.length<=M:=by
 obtain⟨B,a4,a5,a6,e,g,h⟩:=ci_2 (s:=s) wd hM hN hn hs 3000 [] [s] [(s,none)] .no .no .no rfl .base (λq hq=>by cases hq) (by simp only [List.length_nil];omega);refine⟨B, ?_,g,h, ?_⟩
 ·have q:ad_3 (Bd 7 [.int (s:Int),.dic wk])=Cl 2 [.sh (.int (s:Int)),.sh (.dic wk),.ow (.dic (bD B)),.ow (.lst []),a4,a5,a6]:=by
   unfold ad_3;rw [show Bd 7 [.int (s:Int),.dic wk]= [.sh (.int (s:Int)),.sh (.dic wk),.no,.no,.no,.no,.no] from rfl];refine(Bk (Δ':=[.sh (.int (s:Int)),.sh (.dic wk),.ow (.dic (bD [(s,none)])),.no,.no,.no,.no]) rfl).trans ?_;refine(Bk (Δ':=[.sh (.int (s:Int)),.sh (.dic wk),.ow (.dic (bD [(s,none)])),.ow (.lst (zi [s])),.no,.no,.no]) rfl).trans ?_;exact Bk e
  exact s_8 q
 ·have:=bv_4 M (bK B) g.nd (g.all (· < M) hs λq _ x hx=>hN q x hx)
  rwa [List.length_map] at this
end
def Eb(T:List Int)(S:List Nat)(p m l1 l2:Int):List Int:=T.mapIdx λi n=>if i∈S then(n + if(i:Int) < p then l1 else l2) % m else n
theorem q_2(T:List Int)(S:List Nat)(p m l1 l2:Int):(Eb T S p m l1 l2).length=T.length:=by
 unfold Eb;rw [List.length_mapIdx]
theorem aj_9(T:List Int)(S:List Nat)(p m l1 l2:Int)(i:Nat):(Eb T S p m l1 l2)[i]? =(T[i]?).map λn=>if i∈S then(n + if(i:Int) < p then l1 else l2) % m else n:=by
 unfold Eb;rw [List.getElem?_mapIdx]
section
variable{p s m l1 l2:Int}{T:List Int}{kds:List (Af×D)}{B:Bs}
theorem ci_3{L:List Int}{i:Nat}{n:Int}(hm:0 < m)(hL:L.length<=1000)(a7:Sl):i_4 [.lt (Ah p s m T kds),.sh (.dic (bD B)),.sh (.int l1),.sh (.int l2),.ow (.lst (L.map .int)),.sh (.int (i:Int)),.sh (.int n),a7]=.nx [.lt (Ah p s m T kds),.sh (.dic (bD B)),.sh (.int l1),.sh (.int l2),.ow (.lst ((L ++ [if i∈bK B then(n + if(i:Int) < p then l1 else l2) % m else n]).map .int)),.sh (.int (i:Int)),.sh (.int n),.sh (.int (if(i:Int) < p then l1 else l2))]:=by
 have e1:∀δ,Co ["Living"] "part" (Aa 0) (some (Bi p s m T kds)::δ)=.ok (.sh (.int p)):=λ δ=>fld rfl rfl;have e2:∀δ,Co ["Living"] "modulus" (Aa 0) (some (Bi p s m T kds)::δ)=.ok (.sh (.int m)):=λ δ=>fld rfl rfl;have q1:m_9 7 (r_2 [0] (eIf (Ak (Ae ltD (Aa 5) (Co ["Living"] "part" (Aa 0)))) (Aa 2) (Aa 3))) [.lt (Ah p s m T kds),.sh (.dic (bD B)),.sh (.int l1),.sh (.int l2),.ow (.lst (L.map .int)),.sh (.int (i:Int)),.sh (.int n),a7]=.nx [.lt (Ah p s m T kds),.sh (.dic (bD B)),.sh (.int l1),.sh (.int l2),.ow (.lst (L.map .int)),.sh (.int (i:Int)),.sh (.int n),.sh (.int (if(i:Int) < p then l1 else l2))]:=by
  unfold m_9;rw [ap_4 (w:=.sh (.int (if(i:Int) < p then l1 else l2))) ?_ rfl]
  ·rfl
  ·by_cases h:(i:Int) < p
   ·simp_arith [Ao,e1,af_0,h]
   ·simp_arith [Ao,e1,af_0,h]
 unfold i_4;rw [Bk q1];generalize (if(i:Int) < p then l1 else l2)=w;have hb:=bv_5 B i;have hl:(L.map D.int).length < 16777216:=by rw [List.length_map];omega
 unfold sApp
 by_cases h:i∈bK B
 ·rw [decide_eq_true h] at hb;have hr:=ag_3 (n + w) m hm;have e0:Co ["Living"] "modulus" (Aa 0) [none,some (.dic (bD B)),some (.int l1),some (.int l2),none,some (.int (i:Int)),some (.int n),some (.int w)]=.no:=rfl
  simp_arith [Ao,Sl.any,Sl.pub,z_3,Eg,Ee,hb,if_true,e0,e2,j_7,hr,if_pos h,if_pos hl,List.map_append]
 ·rw [decide_eq_false h] at hb
  simp_arith [Ao,Sl.any,Sl.pub,Eg,Ee,hb,if_true,if_neg h,if_pos hl,List.map_append]
end
section
variable{p s m l1 l2:Int}{T:List Int}{kds:List (Af×D)}{B:Bs}
theorem bv_6{i:Nat}{n:Int}(h:T[i]? =some n):(Eb T (bK B) p m l1 l2).take (i + 1)=(Eb T (bK B) p m l1 l2).take i ++ [if i∈bK B then(n + if(i:Int) < p then l1 else l2) % m else n]:=by
 rw [List.take_add_one,aj_9,h];rfl
theorem ct_8(hm:0 < m)(hT:T.length<=1000):d_1 (Ah p s m T kds) [.dic (bD B),.int l1,.int l2]=.ok .non (Ah p s m (Eb T (bK B) p m l1 l2) kds):=by
 let I:Nat->SE->Prop:=λi Δ=>∃a5 a6 a7:Sl,Δ= [.lt (Ah p s m T kds),.sh (.dic (bD B)),.sh (.int l1),.sh (.int l2),.ow (.lst (((Eb T (bK B) p m l1 l2).take i).map .int)),a5,a6,a7]
 obtain⟨Δ',e,a5,a6,a7,rfl⟩:=q_0 (gV2 5 6) i_4 I (ds:=w_7 0 (T.map .int)) (Δ:=[.lt (Ah p s m T kds),.sh (.dic (bD B)),.sh (.int l1),.sh (.int l2),.ow (.lst []),.no,.no,.no]) ⟨_,_,_,rfl⟩
  (λi d Δ hd ⟨a5,a6,a7,e⟩=>by
   subst e;obtain⟨d',h1,h2⟩:=aa_0 hd;rw [List.getElem?_map] at h1;cases he:T[i]? with
   |none=>rw [he] at h1;cases h1
   |some n=>
    rw [he] at h1;cases h1;rw [Nat.zero_add] at h2;subst h2;refine⟨_,rfl,_,.inl (ci_3 (n:=n) hm ?_ a7),.sh (.int (i:Int)),.sh (.int n),.sh (.int (if(i:Int) < p then l1 else l2)), ?_⟩
    ·rw [List.length_take,q_2];omega
    ·rw [bv_6 he])
 rw [aa_1,List.length_map,<-q_2 T (bK B) p m l1 l2,List.take_length] at e;have q1:bn_5 (r_2 [0] (Co ["Living"] "listed" (Aa 0))) (gV2 5 6) i_4 [.lt (Ah p s m T kds),.sh (.dic (bD B)),.sh (.int l1),.sh (.int l2),.ow (.lst []),.no,.no,.no]=.nx [.lt (Ah p s m T kds),.sh (.dic (bD B)),.sh (.int l1),.sh (.int l2),.ow (.lst ((Eb T (bK B) p m l1 l2).map .int)),a5,a6,a7]:=by
  unfold bn_5;rw [ap_4 (w:=.sh (.lst (T.map .int))) (fld rfl rfl) (by show Fs (.lst (T.map .int))=true;simp only [Fs,au_6])];exact e
 have q2:bn_1 0 ["Living"] "listed" [4] (Aa 4) [.lt (Ah p s m T kds),.sh (.dic (bD B)),.sh (.int l1),.sh (.int l2),.ow (.lst ((Eb T (bK B) p m l1 l2).map .int)),a5,a6,a7]=.nx [.lt (Ah p s m (Eb T (bK B) p m l1 l2) kds),.sh (.dic (bD B)),.sh (.int l1),.sh (.int l2),.sh (.lst ((Eb T (bK B) p m l1 l2).map .int)),a5,a6,a7]:=by
  have hc:lN.contains ("listed" :Str)=true:=by decide +kernel
  have hg:gsome [4] [.lt (Ah p s m T kds),.sh (.dic (bD B)),.sh (.int l1),.sh (.int l2),.ow (.lst ((Eb T (bK B) p m l1 l2).map .int)),a5,a6,a7]= [.lt (Ah p s m T kds),.sh (.dic (bD B)),.sh (.int l1),.sh (.int l2),.sh (.lst ((Eb T (bK B) p m l1 l2).map .int)),a5,a6,a7]:=rfl;have hb:(([.lt (Ah p s m T kds),.sh (.dic (bD B)),.sh (.int l1),.sh (.int l2),.sh (.lst ((Eb T (bK B) p m l1 l2).map .int)),a5,a6,a7]:SE)[0]?).bind Sl.tree=some (Ah p s m T kds,true):=rfl;have hv:Aa 4 (As [.lt (Ah p s m T kds),.sh (.dic (bD B)),.sh (.int l1),.sh (.int l2),.sh (.lst ((Eb T (bK B) p m l1 l2).map .int)),a5,a6,a7])=.ok (.sh (.lst ((Eb T (bK B) p m l1 l2).map .int))):=rfl;unfold bn_1;rw [hg,hb,hv];have hn:lN.length < 1000:=by decide
  unfold Ah;simp only [au_4,hc,hn,and_self,if_true,W.d_sh,dn_7];rfl
 unfold d_1 u_4 z_0;rw [show y_3 8 (Ah p s m T kds) [.dic (bD B),.int l1,.int l2]= [.lt (Ah p s m T kds),.sh (.dic (bD B)),.sh (.int l1),.sh (.int l2),.no,.no,.no,.no] from rfl];have q0:Al 4 [] (Dq Ac) [.lt (Ah p s m T kds),.sh (.dic (bD B)),.sh (.int l1),.sh (.int l2),.no,.no,.no,.no]=.nx [.lt (Ah p s m T kds),.sh (.dic (bD B)),.sh (.int l1),.sh (.int l2),.ow (.lst []),.no,.no,.no]:=rfl;rw [Bk q0,Bk q1,q2]
end
def ak_0:Xn:=⟨"Stuck",[],[]⟩
theorem lenB(B:Bs):(bD B).length=B.length:=by unfold bD;rw [List.length_map]
section
variable{p s m l:Int}{T:List Int}{kds wk:List (Af×D)}{N:Nat->Nb}{a b:Nat}
def cc_2(p s m l:Int)(T:List Int)(kds:List (Af×D))(b:Nat)(B1 B2:Bs):RR:=
 if b∈bK B1 then .ex ak_0 (Ah p s m T kds) else if B1.length<=B2.length then .ok (.int (B1.length:Int)) (Ah p s m (Eb T (bK B1) p m l (-l)) kds) else .ok (.int (B2.length:Int)) (Ah p s m (Eb T (bK B2) p m (-l) l) kds)
theorem de_0{B1 B2:Bs}(z:Szs p s m T)(f1:j_4 [.int (a:Int),.dic wk]=.ok (.ow (.dic (bD B1))))(f2:j_4 [.int (b:Int),.dic wk]=.ok (.ow (.dic (bD B2)))):g_3 (Ah p s m T kds) [.tup (zi [a,b]),.int l,.dic wk]=cc_2 p s m l T kds b B1 B2:=by
 have hm:0 < m:=by have:=z.m0;omega
 have hT:T.length<=1000:=by have:=z.tl;have:=z.p1;omega
 have i0:Be (.tup (zi [a,b])) (.int 0)=.ok (.sh (.int (a:Int))):=rfl;have i1:Be (.tup (zi [a,b])) (.int 1)=.ok (.sh (.int (b:Int))):=rfl;have k1:=ap_5 (n:=3) (p:=p) (s:=s) (m:=m) (T:=T) (kds:=kds) (M:=d_1) (ga:=Bo (Aa 4) (Bo (Aa 2) (Bo (eNeg (Aa 2)) Dh))) (Δ:=[.sh (.tup (zi [a,b])),.sh (.int l),.sh (.dic wk),.sh (.dic (bD B1)),.ow (.dic (bD B2))]) (ds:=[.dic (bD B1),.int l,.int (-l)]) (mn:= "shift") (by decide +kernel) rfl rfl;have k2:=ap_5 (n:=3) (p:=p) (s:=s) (m:=m) (T:=T) (kds:=kds) (M:=d_1) (ga:=Bo (Aa 5) (Bo (eNeg (Aa 2)) (Bo (Aa 2) Dh))) (Δ:=[.sh (.tup (zi [a,b])),.sh (.int l),.sh (.dic wk),.ow (.dic (bD B1)),.sh (.dic (bD B2))]) (ds:=[.dic (bD B2),.int (-l),.int l]) (mn:= "shift") (by decide +kernel) rfl rfl;rw [ct_8 hm hT] at k1 k2;unfold g_3 u_4 ac_1 cc_2;generalize Ah p s m (Eb T (bK B1) p m l (-l)) kds=t1 at k1⊢;generalize Ah p s m (Eb T (bK B2) p m (-l) l) kds=t2 at k2⊢;generalize Ah p s m T kds=t at k1 k2⊢;rw [show y_3 6 t [.tup (zi [a,b]),.int l,.dic wk]= [.lt t,.sh (.tup (zi [a,b])),.sh (.int l),.sh (.dic wk),.no,.no] from rfl];have q1:Al 4 [1,3] (Bj 2 j_4 (Ab (Ae Be (Aa 1) (eC (.int 0))) (Ab (Aa 3) Ac))) [.lt t,.sh (.tup (zi [a,b])),.sh (.int l),.sh (.dic wk),.no,.no]=.nx [.lt t,.sh (.tup (zi [a,b])),.sh (.int l),.sh (.dic wk),.ow (.dic (bD B1)),.no]:=by
  simp_arith [Ao,Sl.any,Sl.pub,Sl.give,i0,f1]
 have q2:Al 5 [1,3] (Bj 2 j_4 (Ab (Ae Be (Aa 1) (eC (.int 1))) (Ab (Aa 3) Ac))) [.lt t,.sh (.tup (zi [a,b])),.sh (.int l),.sh (.dic wk),.ow (.dic (bD B1)),.no]=.nx [.lt t,.sh (.tup (zi [a,b])),.sh (.int l),.sh (.dic wk),.ow (.dic (bD B1)),.ow (.dic (bD B2))]:=by
  simp_arith [Ao,Sl.any,Sl.pub,Sl.give,i1,f2]
 rw [Bk q1,Bk q2];have hb:=bv_5 B1 b
 by_cases h:b∈bK B1
 ·rw [decide_eq_true h] at hb;have q3:Bu [1,4] (Ak (Ae (Eg false) (Ae Be (Aa 1) (eC (.int 1))) (Aa 4))) (aa_3 "Stuck") Az [.lt t,.sh (.tup (zi [a,b])),.sh (.int l),.sh (.dic wk),.ow (.dic (bD B1)),.ow (.dic (bD B2))]=.ex ak_0 [.lt t,.sh (.tup (zi [a,b])),.sh (.int l),.sh (.dic wk),.ow (.dic (bD B1)),.ow (.dic (bD B2))]:=by
   simp_arith [Ao,Sl.any,i1,Eg,Ee,hb,if_true]
   rfl
  rw [if_pos h];unfold Ag;rw [q3]
 ·rw [decide_eq_false h] at hb;have q3:Bu [1,4] (Ak (Ae (Eg false) (Ae Be (Aa 1) (eC (.int 1))) (Aa 4))) (aa_3 "Stuck") Az [.lt t,.sh (.tup (zi [a,b])),.sh (.int l),.sh (.dic wk),.ow (.dic (bD B1)),.ow (.dic (bD B2))]=.nx [.lt t,.sh (.tup (zi [a,b])),.sh (.int l),.sh (.dic wk),.ow (.dic (bD B1)),.ow (.dic (bD B2))]:=by
   simp_arith [Ao,Sl.any,i1,Eg,Ee,hb,if_true]
  rw [if_neg h,Bk q3];have lk:∀B,De [.dic (bD B)]=.ok (.sh (.int (B.length:Int))):=λB=>by
   have:=lenB B;show R.ok (W.sh (.int ((bD B).length:Int)))=_;rw [this]
  by_cases hl:B1.length<=B2.length
  ·have q4:∀g1 g2:FS,Bu [4,5] (Ak (Ae leD (Aq De (Ab (Aa 4) Ac)) (Aq De (Ab (Aa 5) Ac)))) g1 g2 [.lt t,.sh (.tup (zi [a,b])),.sh (.int l),.sh (.dic wk),.ow (.dic (bD B1)),.ow (.dic (bD B2))]=g1 [.lt t,.sh (.tup (zi [a,b])),.sh (.int l),.sh (.dic wk),.ow (.dic (bD B1)),.ow (.dic (bD B2))]:=λg1 g2=>by
    simp_arith [Ao,Sl.any,lk,ak_7,show(B1.length:Int)<=(B2.length:Int) by omega]
   rw [if_pos hl];unfold Ag;rw [q4];have q5:l_0 (En [2,4] (o_3 0 3 "shift" "Living" d_1 (Bo (Aa 4) (Bo (Aa 2) (Bo (eNeg (Aa 2)) Dh))))) [.lt t,.sh (.tup (zi [a,b])),.sh (.int l),.sh (.dic wk),.ow (.dic (bD B1)),.ow (.dic (bD B2))]=.nx [.lt t1,.sh (.tup (zi [a,b])),.sh (.int l),.sh (.dic wk),.sh (.dic (bD B1)),.ow (.dic (bD B2))]:=by
    unfold l_0 En;rw [show gsome [2,4] [.lt t,.sh (.tup (zi [a,b])),.sh (.int l),.sh (.dic wk),.ow (.dic (bD B1)),.ow (.dic (bD B2))]= [.lt t,.sh (.tup (zi [a,b])),.sh (.int l),.sh (.dic wk),.sh (.dic (bD B1)),.ow (.dic (bD B2))] from rfl,k1];rfl
   rw [q5];have q6:y_2 (r_4 [4] (Aq De (Ab (Aa 4) Ac))) [.lt t1,.sh (.tup (zi [a,b])),.sh (.int l),.sh (.dic wk),.sh (.dic (bD B1)),.ow (.dic (bD B2))]=.rv (.int (B1.length:Int)) [.lt t1,.sh (.tup (zi [a,b])),.sh (.int l),.sh (.dic wk),.sh (.dic (bD B1)),.ow (.dic (bD B2))]:=by
    unfold y_2 r_4
    simp_arith [Ao,Sl.any,Sl.pub,lk]
   simp only [q6]
  ·have q4:∀g1 g2:FS,Bu [4,5] (Ak (Ae leD (Aq De (Ab (Aa 4) Ac)) (Aq De (Ab (Aa 5) Ac)))) g1 g2 [.lt t,.sh (.tup (zi [a,b])),.sh (.int l),.sh (.dic wk),.ow (.dic (bD B1)),.ow (.dic (bD B2))]=g2 [.lt t,.sh (.tup (zi [a,b])),.sh (.int l),.sh (.dic wk),.ow (.dic (bD B1)),.ow (.dic (bD B2))]:=λg1 g2=>by
    simp_arith [Ao,Sl.any,lk,ak_7,show¬(B1.length:Int)<=(B2.length:Int) by omega]
   rw [if_neg hl];have q5:l_0 (En [2,5] (o_3 0 3 "shift" "Living" d_1 (Bo (Aa 5) (Bo (eNeg (Aa 2)) (Bo (Aa 2) Dh))))) [.lt t,.sh (.tup (zi [a,b])),.sh (.int l),.sh (.dic wk),.ow (.dic (bD B1)),.ow (.dic (bD B2))]=.nx [.lt t2,.sh (.tup (zi [a,b])),.sh (.int l),.sh (.dic wk),.ow (.dic (bD B1)),.sh (.dic (bD B2))]:=by
    unfold l_0 En;rw [show gsome [2,5] [.lt t,.sh (.tup (zi [a,b])),.sh (.int l),.sh (.dic wk),.ow (.dic (bD B1)),.ow (.dic (bD B2))]= [.lt t,.sh (.tup (zi [a,b])),.sh (.int l),.sh (.dic wk),.ow (.dic (bD B1)),.sh (.dic (bD B2))] from rfl,k2];rfl
   have q6:y_2 (r_4 [5] (Aq De (Ab (Aa 5) Ac))) [.lt t2,.sh (.tup (zi [a,b])),.sh (.int l),.sh (.dic wk),.ow (.dic (bD B1)),.sh (.dic (bD B2))]=.rv (.int (B2.length:Int)) [.lt t2,.sh (.tup (zi [a,b])),.sh (.int l),.sh (.dic wk),.ow (.dic (bD B1)),.sh (.dic (bD B2))]:=by
    unfold y_2 r_4
    simp_arith [Ao,Sl.any,Sl.pub,lk]
   unfold Ag;rw [q4];simp only [Az,q5,q6]
end
structure Srch(N:Nat->Nb)(s M:Nat)(B:Bs):Prop where
 g:Grown N s B
 cl:∀q∈bK B,∀x∈N q,x.2∈bK B
 le:B.length<=M
section
variable{p s m:Int}{T:List Int}{kds:List (Af×D)}{ks:List D}{d:D}{v:Int}
def o_8(T:List Int)(d:D)(s p m v:Int):Int:=v - n_1 T [pA d s p,pB d s p] % m
def Ey(p s m v:Int)(T:List Int)(kds:List (Af×D))(d:D)(B1 B2:Bs):RR:=
 if o_8 T d s p m v=0 then .ok (.int 0) (Ah p s m T (Cr kds (Bf d) (.int v)))
 else if pB d s p∈bK B1 then .ex ak_0 (Ah p s m T kds)
 else if B1.length<=B2.length then .ok (.int (B1.length:Int)) (Ah p s m (Eb T (bK B1) p m (o_8 T d s p m v) (-o_8 T d s p m v)) (Cr kds (Bf d) (.int v)))
 else .ok (.int (B2.length:Int)) (Ah p s m (Eb T (bK B2) p m (-o_8 T d s p m v) (o_8 T d s p m v)) (Cr kds (Bf d) (.int v)))
theorem cc_3{E:List Ed}{q:Nat}{x:D×Nat}(h:x∈Dm E q):∃e∈E,(e.2.1=q/\x=(e.1,e.2.2))\/(e.2.2=q/\x=(e.1,e.2.1)):=by
 unfold Dm at h;obtain⟨e,he,hx⟩:=List.mem_flatMap.mp h;refine⟨e,he, ?_⟩;rcases List.mem_append.mp hx with hx|hx
 ·split at hx
  ·rename_i hq;exact .inl ⟨hq,List.mem_singleton.mp hx⟩
  ·cases hx
 ·split at hx
  ·rename_i hq;exact .inr ⟨hq,List.mem_singleton.mp hx⟩
  ·cases hx
theorem do_0(z:Szs p s m T)(h:KOk kds ks)(hd:Bv d)(v0:0<=v)(v1:v < m):∃B1 B2,Srch (Dm (Fv ks d s p)) (pA d s p) (2 * p).toNat B1/\Srch (Dm (Fv ks d s p)) (pB d s p) (2 * p).toNat B2/\h_2 (Ah p s m T kds) [d,.int v]=Ey p s m v T kds d B1 B2:=by
 have p0:=z.p0;have p1:=z.p1;have a:=au_2 d s p0;have b:=au_3 d s p0;obtain⟨w,wk,ew,pw,dw,wd⟩:=bv_3 z h hd;have hN:∀q,∀x∈Dm (Fv ks d s p) q,x.2 < (2 * p).toNat:=λq x hx=>by
  obtain⟨e,he,hx⟩:=cc_3 hx;obtain⟨y,hy,rfl⟩:=List.mem_map.mp he;have a:=au_2 y s p0;have b:=au_3 y s p0;rcases hx with⟨_,rfl⟩|⟨_,rfl⟩
  ·show pB y s p < _;omega
  ·show pA y s p < _;omega
 have hn:∀q,(Dm (Fv ks d s p) q).length<=1000:=λq=>by
  have h1:=cc_1 (Fv ks d s p) q;have h2:(Fv ks d s p).length<=ks.length:=by unfold Fv;rw [List.length_map];exact List.length_filter_le _ _
  have:=h.len;omega
 obtain⟨B1,f1,g1,c1,l1⟩:=bp_1 (s:=pA d s p) wd (M:=(2 * p).toNat) (by omega) hN hn (by omega);obtain⟨B2,f2,g2,c2,l2⟩:=bp_1 (s:=pB d s p) wd (M:=(2 * p).toNat) (by omega) hN hn (by omega);refine⟨B1,B2,⟨g1,c1,l1⟩,⟨g2,c2,l2⟩, ?_⟩;have hp:=aa_9 (m:=m) (T:=T) (kds:=kds) hd z.s0 z.s1 z.p0 (by have:=z.p1;omega);rw [w_3 d s p0] at hp;have e2:By "places" 1 [("Living",b_5)] (Aa 0) (Ab (Aa 1) Ac) [some (Bi p s m T kds),some d,some (.int v),none,none,none]=.ok (.sh (.tup (zi [pA d s p,pB d s p]))):=(met1 (w:=.sh d) rfl rfl (by decide +kernel)).trans hp;have e3:Co ["Living"] "modulus" (Aa 0) [some (Bi p s m T kds),some d,some (.int v),some (.tup (zi [pA d s p,pB d s p])),none,none]=.ok (.sh (.int m)):=fld rfl rfl;have e4:By "value" 1 [("Living",c_6)] (Aa 0) (Ab (Aa 1) Ac) [some (Bi p s m T kds),some d,some (.int v),some (.tup (zi [pA d s p,pB d s p])),none,none]=.ok (.sh (.int (n_1 T [pA d s p,pB d s p] % m))):=(met1 (w:=.sh d) rfl rfl (by decide +kernel)).trans (bo_8 z hd);have e5:By "ways_without" 1 [("Living",b_1)] (Aa 0) (Ab (Aa 1) Ac) [some (Bi p s m T kds),some d,some (.int v),some (.tup (zi [pA d s p,pB d s p])),some (.int (o_8 T d s p m v)),some (.int 0)]=.ok w:=(met1 (w:=.sh d) rfl rfl (by decide +kernel)).trans ew;have yb:0<=v/\v < m:=⟨v0,v1⟩;unfold h_2 u_4 ag_0;rw [show y_3 6 (Ah p s m T kds) [d,.int v]= [.lt (Ah p s m T kds),.sh d,.sh (.int v),.no,.no,.no] from rfl];have q1:m_9 3 (r_2 [0] (By "places" 1 [("Living",b_5)] (Aa 0) (Ab (Aa 1) Ac))) [.lt (Ah p s m T kds),.sh d,.sh (.int v),.no,.no,.no]=.nx [.lt (Ah p s m T kds),.sh d,.sh (.int v),.sh (.tup (zi [pA d s p,pB d s p])),.no,.no]:=by
  unfold m_9;rw [ap_4 e2 rfl];rfl
 have q2:Bu [0,2] (Bm (Ax (Bj 2 h_4 (Ab (Aa 2) (Ab (Co ["Living"] "modulus" (Aa 0)) Ac))))) (ac_9 "NoValue" "at" [] (eC (.int 0))) Az [.lt (Ah p s m T kds),.sh d,.sh (.int v),.sh (.tup (zi [pA d s p,pB d s p])),.no,.no]=.nx [.lt (Ah p s m T kds),.sh d,.sh (.int v),.sh (.tup (zi [pA d s p,pB d s p])),.no,.no]:=by
  simp_arith [Ao,Sl.any,z_3,e3,cs_8,yb,Bm,ac_9,and_self,decide_true]
 have q3:m_9 4 (r_2 [0] (Ae Ex (Aa 2) (By "value" 1 [("Living",c_6)] (Aa 0) (Ab (Aa 1) Ac)))) [.lt (Ah p s m T kds),.sh d,.sh (.int v),.sh (.tup (zi [pA d s p,pB d s p])),.no,.no]=.nx [.lt (Ah p s m T kds),.sh d,.sh (.int v),.sh (.tup (zi [pA d s p,pB d s p])),.sh (.int (o_8 T d s p m v)),.no]:=by
  unfold m_9;rw [ap_4 (w:=.sh (.int (o_8 T d s p m v))) ?_ rfl]
  ·rfl
  ·simp_arith [Ao,Sl.any,Sl.pub,e4,ac_8,o_8]
 have q4:Al 5 [] (eC (.int 0)) [.lt (Ah p s m T kds),.sh d,.sh (.int v),.sh (.tup (zi [pA d s p,pB d s p])),.sh (.int (o_8 T d s p m v)),.no]=.nx [.lt (Ah p s m T kds),.sh d,.sh (.int v),.sh (.tup (zi [pA d s p,pB d s p])),.sh (.int (o_8 T d s p m v)),.sh (.int 0)]:=rfl;rw [Bk q1,Bk q2,Bk q3,Bk q4];have fin:∀(T':List Int) (c:Int),(match Ag (ba_6 0 ["Living"] "by_key" (Aa 1) (Aa 2)) (y_2 (r_4 [5] (Aa 5))) [.lt (Ah p s m T' kds),.sh d,.sh (.int v),.sh (.tup (zi [pA d s p,pB d s p])),.sh (.int (o_8 T d s p m v)),.sh (.int c)] with
   | .nx (.lt t'::_)=>RR.ok .non t'
   | .rv d (.lt t'::_)=> .ok d t'
   | .ex x (.lt t'::_)=> .ex x t'
   |_=> .no)=.ok (.int c) (Ah p s m T' (Cr kds (Bf d) (.int v))):=λT' c=>by
  rw [Bk (fput (k:=Bf d) (w:=.sh d) (v:=.sh (.int v)) rfl (z_2 hd) rfl (by rw [h.length];have:=h.len;omega))];rfl
 have ne:Cn (.int (o_8 T d s p m v)) (.int 0)=.ok (.sh (.bl (!decide (o_8 T d s p m v=0)))):=ao_6 _ _;unfold Ey;clear q1 q2 q3 q4 e4;generalize o_8 T d s p m v=l at e5 fin ne⊢
 by_cases hz:l=0
 ·have q5:∀g:FS,Bu [4] (Ak (Ae Cn (Aa 4) (eC (.int 0)))) g Az [.lt (Ah p s m T kds),.sh d,.sh (.int v),.sh (.tup (zi [pA d s p,pB d s p])),.sh (.int (l)),.sh (.int 0)]=.nx [.lt (Ah p s m T kds),.sh d,.sh (.int v),.sh (.tup (zi [pA d s p,pB d s p])),.sh (.int (l)),.sh (.int 0)]:=λg=>by
   subst hz
   simp_arith [Ao,Sl.any,ne]
  rw [Bk (q5 _),if_pos hz];exact fin _ _
 ·have q5:∀g:FS,Bu [4] (Ak (Ae Cn (Aa 4) (eC (.int 0)))) g Az [.lt (Ah p s m T kds),.sh d,.sh (.int v),.sh (.tup (zi [pA d s p,pB d s p])),.sh (.int (l)),.sh (.int 0)]=g [.lt (Ah p s m T kds),.sh d,.sh (.int v),.sh (.tup (zi [pA d s p,pB d s p])),.sh (.int (l)),.sh (.int 0)]:=λg=>by
   simp_arith [Ao,Sl.any,ne,decide_eq_false hz]
  have mc:ak_8 [0] (By "ways_without" 1 [("Living",b_1)] (Aa 0) (Ab (Aa 1) Ac)) Dh [.lt (Ah p s m T kds),.sh d,.sh (.int v),.sh (.tup (zi [pA d s p,pB d s p])),.sh (.int (l)),.sh (.int 0)]=.ok [.dic wk]:=by
   unfold ak_8;rw [bb_5,if_pos rfl,dg_3,z_3];rw [show As [.sh d,.sh (.int v),.sh (.tup (zi [pA d s p,pB d s p])),.sh (.int l),.sh (.int 0)]= [some d,some (.int v),some (.tup (zi [pA d s p,pB d s p])),some (.int l),some (.int 0)] from rfl];rw [e5];simp only [pw,if_true,Dh,dw]
  have mg:Bo (Aa 3) (Bo (Aa 4) (ak_8 [0] (By "ways_without" 1 [("Living",b_1)] (Aa 0) (Ab (Aa 1) Ac)) Dh)) [.lt (Ah p s m T kds),.sh d,.sh (.int v),.sh (.tup (zi [pA d s p,pB d s p])),.sh (.int (l)),.sh (.int 0)]=.ok [.tup (zi [pA d s p,pB d s p]),.int (l),.dic wk]:=by
   show(match(match ak_8 [0] (By "ways_without" 1 [("Living",b_1)] (Aa 0) (Ab (Aa 1) Ac)) Dh [.lt (Ah p s m T kds),.sh d,.sh (.int v),.sh (.tup (zi [pA d s p,pB d s p])),.sh (.int l),.sh (.int 0)] with| .ok ds=>R.ok (D.int l::ds)| .ex x=> .ex x| .no=> .no) with| .ok ds=>R.ok (D.tup (zi [pA d s p,pB d s p])::ds)| .ex x=> .ex x| .no=> .no)=_;rw [mc]
  have k:=ap_5 (n:=3) (M:=g_3) (mn:= "mend") (by decide +kernel) mg rfl;rw [de_0 z f1 f2] at k;have q6:m_9 5 (En [1,3,4] (o_3 0 3 "mend" "Living" g_3 (Bo (Aa 3) (Bo (Aa 4) (ak_8 [0] (By "ways_without" 1 [("Living",b_1)] (Aa 0) (Ab (Aa 1) Ac)) Dh))))) [.lt (Ah p s m T kds),.sh d,.sh (.int v),.sh (.tup (zi [pA d s p,pB d s p])),.sh (.int (l)),.sh (.int 0)]=(match goR 0 true [.lt (Ah p s m T kds),.sh d,.sh (.int v),.sh (.tup (zi [pA d s p,pB d s p])),.sh (.int (l)),.sh (.int 0)] (cc_2 p s m (l) T kds (pB d s p) B1 B2) with
   | .ok d Δ1=>Fl.nx (Δ1.set 5 (.sh d))
   | .ex x Δ1=> .ex x Δ1
   | .no=> .no):=by
   unfold m_9 En;rw [show gsome [1,3,4] [.lt (Ah p s m T kds),.sh d,.sh (.int v),.sh (.tup (zi [pA d s p,pB d s p])),.sh (.int (l)),.sh (.int 0)]= [.lt (Ah p s m T kds),.sh d,.sh (.int v),.sh (.tup (zi [pA d s p,pB d s p])),.sh (.int (l)),.sh (.int 0)] from rfl,k] <;> (generalize goR 0 true _ _=r;cases r <;> rfl)
  rw [if_neg hz];unfold cc_2 at q6
  by_cases hb:pB d s p∈bK B1
  ·rw [if_pos hb] at q6⊢;unfold Ag;rw [q5,q6];rfl
  ·rw [if_neg hb] at q6⊢
   by_cases hl:B1.length<=B2.length
   ·rw [if_pos hl] at q6⊢;rw [Bk ((q5 _).trans q6)];exact fin _ _
   ·rw [if_neg hl] at q6⊢;rw [Bk ((q5 _).trans q6)];exact fin _ _
end
section
variable{kds:List (Af×D)}{ks:List D}{d:D}{v:Int}
theorem KOk.has(h:KOk kds ks)(hd:Bv d):Cz kds (Bf d)=true↔d∈ks:=by
 constructor
 ·intro e;unfold Cz at e;obtain⟨w,e⟩:=Option.isSome_iff_exists.mp e;have:Bf d∈kds.map (·.1):=List.mem_map.mpr ⟨_,bb_9 e,rfl⟩;rw [h.eq] at this;obtain⟨x,hx,e⟩:=List.mem_map.mp this
  rwa [<-ag_2 (h.key x hx) hd e]
 ·intro hm;obtain⟨w,e,_⟩:=bh_2 (kds:=kds) (k:=Bf d) (by rw [h.eq];exact List.mem_map_of_mem hm);unfold Cz;rw [e];rfl
theorem ct_9(k:Af)(w:D)(hh:Cz kds k=true):(Cr kds k w).map (·.1)=kds.map (·.1):=by
 unfold Cr;rw [bh_3,hh,if_pos rfl,List.map_map];refine List.map_congr_left λq _=> ?_;show(if q.1=k then(q.1,w) else q).1=q.1
 split <;> rfl
theorem de_1{k:Af}{w:D}{q:Af×D}(hq:q∈Cr kds k w):q∈kds\/q.2=w:=by
 unfold Cr at hq
 split at hq
 ·obtain⟨y,hy,e⟩:=List.mem_map.mp hq
  split at e
  ·subst e;exact .inr rfl
  ·subst e;exact .inl hy
 ·rcases List.mem_append.mp hq with h|h
  ·exact .inl h
  ·rw [List.mem_singleton.mp h];exact .inr rfl
theorem KOk.put(h:KOk kds ks)(hd:Bv d)(hl:ks.length < 60):KOk (Cr kds (Bf d) (.int v)) (if Cz kds (Bf d)=true then ks else ks ++ [d]):=by
 have hv:∀q∈Cr kds (Bf d) (.int v),∃n:Int,q.2=.int n:=λq hq=>by
  rcases de_1 hq with h'|h'
  ·exact h.val q h'
  ·exact⟨v,h'⟩
 cases hh:Cz kds (Bf d) with
 |true=>
  rw [if_pos rfl];exact⟨h.key,h.nd,(ct_9 _ _ hh).trans h.eq,hv,h.len⟩
 |false=>
  rw [if_neg Bool.false_ne_true];have hn:d∉ks:=λhm=>by rw [(h.has hd).mpr hm] at hh;cases hh
  refine⟨λk hk=> ?_, ?_, ?_,hv,by rw [List.length_append];simp only [List.length_cons,List.length_nil];omega⟩
  ·rcases List.mem_append.mp hk with h'|h'
   ·exact h.key k h'
   ·rw [List.mem_singleton.mp h'];exact hd
  ·refine List.nodup_append.mpr ⟨h.nd,by simp,λa ha b hb e=> ?_⟩;rw [List.mem_singleton.mp hb] at e;subst e;exact hn ha
  ·rw [au_8 hh,List.map_append,List.map_append,h.eq];rfl
theorem KOk.drop(h:KOk kds ks):KOk (Ei kds (Bf d)) (ks.filter λx=>decide (Bf x≠Bf d)):=by
 refine⟨λk hk=>h.key k (List.mem_filter.mp hk).1,h.nd.filter _, ?_,λq hq=>h.val q (List.mem_filter.mp hq).1,Nat.le_trans (List.length_filter_le _ _) h.len⟩;have e:=congrArg (List.filter λx=>decide (x≠Bf d)) h.eq;rw [List.filter_map,List.filter_map] at e;exact e
end
section
variable{p s m:Int}{T:List Int}{kds:List (Af×D)}{ks:List D}{d:D}{v:Int}
def putS:RR->RR
 | .ex _ t=> .ok (.str "stuck") t
 |r=>r
theorem bv_7{t:Tn}{r:RR}(e:o_3 0 2 "put" "Living" h_2 (Bo (Aa 1) (Bo (Aa 2) Dh)) [.lt t,.sh d,.sh (.int v),.no]=goR 0 true [.lt t,.sh d,.sh (.int v),.no] r)(hr:(∃c t',r=.ok (.int c) t')\/∃t',r=.ex ak_0 t'):e_5 t [d,.int v]=putS r:=by
 unfold e_5 u_4 bb_2;rw [show y_3 4 t [d,.int v]= [.lt t,.sh d,.sh (.int v),.no] from rfl];have q0:o_6 [.lt t,.sh d,.sh (.int v),.no]=(match goR 0 true [.lt t,.sh d,.sh (.int v),.no] r with
   | .ok d Δ1=>Fl.nx (Δ1.set 3 (.sh d))
   | .ex x Δ1=> .ex x Δ1
   | .no=> .no):=by
  unfold o_6 m_9 En;rw [show gsome [1,2] [.lt t,.sh d,.sh (.int v),.no]= [.lt t,.sh d,.sh (.int v),.no] from rfl,e] <;> (generalize goR 0 true _ _=r;cases r <;> rfl)
 rcases hr with⟨c,t',rfl⟩|⟨t',rfl⟩
 ·have q1:as_1 o_6 [⟨none, L45,z_1⟩] [.lt t,.sh d,.sh (.int v),.no]=.nx [.lt t',.sh d,.sh (.int v),.sh (.int c)]:=by
   unfold as_1;rw [q0];rfl
  rw [Bk q1];rfl
 ·have q1:as_1 o_6 [⟨none, L45,z_1⟩] [.lt t,.sh d,.sh (.int v),.no]=.nx [.lt t',.sh d,.sh (.int v),.sh (.str "stuck")]:=by
   unfold as_1;rw [q0];rfl
  rw [Bk q1];rfl
theorem cc_4(B1 B2:Bs):(∃(c:Int) (T':List Int),T'.length=T.length/\Ey p s m v T kds d B1 B2=.ok (.int c) (Ah p s m T' (Cr kds (Bf d) (.int v))))\/Ey p s m v T kds d B1 B2=.ex ak_0 (Ah p s m T kds):=by
 unfold Ey
 split
 ·exact .inl ⟨_,_,rfl,rfl⟩
 ·split
  ·exact .inr rfl
  ·split
   ·exact .inl ⟨_,_,q_2 _ _ _ _ _ _,rfl⟩
   ·exact .inl ⟨_,_,q_2 _ _ _ _ _ _,rfl⟩
theorem av_1(z:Szs p s m T)(h:KOk kds ks)(hd:Bv d)(v0:0<=v)(v1:v < m):∃B1 B2,Srch (Dm (Fv ks d s p)) (pA d s p) (2 * p).toNat B1/\Srch (Dm (Fv ks d s p)) (pB d s p) (2 * p).toNat B2/\e_5 (Ah p s m T kds) [d,.int v]=putS (Ey p s m v T kds d B1 B2):=by
 obtain⟨B1,B2,s1,s2,e⟩:=do_0 z h hd v0 v1;refine⟨B1,B2,s1,s2,bv_7 ?_ ?_⟩
 ·have:=ap_5 (n:=2) (p:=p) (s:=s) (m:=m) (T:=T) (kds:=kds) (M:=h_2) (ga:=Bo (Aa 1) (Bo (Aa 2) Dh)) (Δ:=[.sh d,.sh (.int v),.no]) (ds:=[d,.int v]) (mn:= "put") (by decide +kernel) rfl rfl;rw [e] at this;exact this
 ·rcases cc_4 (p:=p) (s:=s) (m:=m) (T:=T) (kds:=kds) (d:=d) (v:=v) B1 B2 with⟨c,T',_,e⟩|e
  ·exact .inl ⟨c,_,e⟩
  ·exact .inr ⟨_,e⟩
theorem de_3(ns:List Int)(k:Int)(hk0:0<=k)(hk1:k<=100)(hn:ns.length<=300)(h:KOk kds ks)(m0:2<=m)(m1:m<=1000000001):∃(b:Int) (d:D) (v:Int),k_3 [.lst (ns.map .int),.int 3,.int k,.dic kds,.tup [.int p,.int s,.int m]]=.ok (.sh (.tup [.int b,d,.int v]))/\(b=0\/b=1)/\Bv d/\0<=v/\v < m:=by
 have mx:0 < max 1 ((ns.length:Int) - 3):=by omega
 have r0:=Int.emod_nonneg k (show max 1 ((ns.length:Int) - 3)≠0 by omega);have r1:=Int.emod_lt_of_pos k mx;obtain⟨c0,er⟩:=dn_5 ns (3 + k % max 1 ((ns.length:Int) - 3)) (by omega) (by omega);have ec:=ap_2 ns 0 (by decide) (by decide);have q1:Al 5 [0,1,2] (Bj 2 n_6 (Ab (Aa 0) (Ab (Ae Bp (Aa 1) (Ae Bt (Aa 2) (Aq maxD (Ab (eC (.int 1)) (Ab (Ae Ex (Aq Dp (Ab (Aa 0) Ac)) (Aa 1)) Ac))))) Ac))) (Bd 10 [.lst (ns.map .int),.int 3,.int k,.dic kds,.tup [.int p,.int s,.int m]])=.nx [.sh (.lst (ns.map .int)),.sh (.int 3),.sh (.int k),.sh (.dic kds),.sh (.tup [.int p,.int s,.int m]),.sh (.int c0),.no,.no,.no,.no]:=by
  simp_arith [Ao,s_7,List.length_map,ac_8,co_6,Cs mx,j_7,er]
 have q2:∃c:Int,Bu [0] (Ak (Ae Ec (Ae Bt (Bj 2 h_3 (Ab (Aa 0) (Ab (eC (.int 0)) Ac))) (eC (.int 2))) (eC (.int 1)))) (Al 5 [2,5] (Bj 2 h_0 (Ab (Ae Bt (Aa 5) (eC (.int 2147483647))) (Ab (Aa 2) Ac)))) Az [.sh (.lst (ns.map .int)),.sh (.int 3),.sh (.int k),.sh (.dic kds),.sh (.tup [.int p,.int s,.int m]),.sh (.int c0),.no,.no,.no,.no]=.nx [.sh (.lst (ns.map .int)),.sh (.int 3),.sh (.int k),.sh (.dic kds),.sh (.tup [.int p,.int s,.int m]),.sh (.int c),.no,.no,.no,.no]:=by
  by_cases hz:am_0 ns 0 % 2=1
  ·exact⟨mixZ (c0 % 2147483647) k,by simp_arith [Ao,ec,Cs (show(0:Int) < 2 by decide),j_0,hz,decide_true,Cs (show(0:Int) < 2147483647 by decide),aj_6 _ k (by omega) (by omega)]⟩
  ·exact⟨c0,by simp_arith [Ao,ec,Cs (show(0:Int) < 2 by decide),j_0,hz,decide_false]⟩
 obtain⟨c,q2⟩:=q2;have ix2:Be (.tup [.int p,.int s,.int m]) (.int 2)=.ok (.sh (.int m)):=rfl;have hm:0 < m:=by omega
 have dm:∀x:Int,Fx (.int x) (.int m)=.ok (.sh (.int (x / m))):=λx=>x_8 hm (by omega);obtain⟨kd,hkd,ekd⟩:=cs_2 (c / 8 / m);have w0:=Int.emod_nonneg c (show(8:Int)≠0 by decide);have w1:=Int.emod_lt_of_pos c (show(0:Int) < 8 by decide);obtain⟨b,hb,eb⟩:=cb_5 (ds:=[.int 0,.int 0,.int 0,.int 0,.int 0,.int 0,.int 1,.int 1]) (i:=c % 8) w0 w1;have hb:b=.int 0\/b=.int 1:=by
  simp only [List.mem_cons,List.not_mem_nil,or_false] at hb;rcases hb with h|h|h|h|h|h|h|h <;> simp [h]
 have q6:∃k',Bv k'/\Bu [3,6] (Cp (Ak (Ae gtD (Aa 6) (eC (.int 4)))) (Ak (Ae bn_8 (Aa 3) ae_9))) (Al 9 [3,4,7] (Ae Be (eKL (Aa 3)) (Ae Bt (Ae Fx (Aa 7) (Ae Be (Aa 4) (eC (.int 2)))) (Aq De (Ab (Aa 3) Ac))))) Az [.sh (.lst (ns.map .int)),.sh (.int 3),.sh (.int k),.sh (.dic kds),.sh (.tup [.int p,.int s,.int m]),.sh (.int c),.sh (.int (c % 8)),.sh (.int (c / 8)),.sh (.int (c / 8 % m)),.sh kd]=.nx [.sh (.lst (ns.map .int)),.sh (.int 3),.sh (.int k),.sh (.dic kds),.sh (.tup [.int p,.int s,.int m]),.sh (.int c),.sh (.int (c % 8)),.sh (.int (c / 8)),.sh (.int (c / 8 % m)),.sh k']:=by
  have ht:Cp (Ak (Ae gtD (Aa 6) (eC (.int 4)))) (Ak (Ae bn_8 (Aa 3) ae_9)) [some (.lst (ns.map .int)),some (.int 3),some (.int k),some (.dic kds),some (.tup [.int p,.int s,.int m]),some (.int c),some (.int (c % 8)),some (.int (c / 8)),some (.int (c / 8 % m)),some kd]=.ok (decide (4 < c % 8) && !kds.isEmpty):=by
   have h1:bn_8 (.dic kds) (.dic [])=.ok (.sh (.bl (!kds.isEmpty))):=rfl
   simp_arith [Cp,Ak,Ae,Aa,eC,ae_9,Ao,h1,df_4]
   cases decide (4 < c % 8) <;> rfl
  by_cases hc:(decide (4 < c % 8) && !kds.isEmpty)=true
  ·have hne:0 < kds.length:=by
    cases kds with
    |nil=>simp at hc
    |cons a b=>simp
   have zk:=h.length;obtain⟨k',hm',ek⟩:=cb_5 (ds:=ks) (i:=c / 8 / m % (kds.length:Int)) (Int.emod_nonneg _ (by omega)) (by have:=Int.emod_lt_of_pos (c / 8 / m) (show(0:Int) < (kds.length:Int) by omega);omega);refine⟨k',h.key k' hm', ?_⟩;unfold Bu;rw [show Bb [.sh (.lst (ns.map .int)),.sh (.int 3),.sh (.int k),.sh (.dic kds),.sh (.tup [.int p,.int s,.int m]),.sh (.int c),.sh (.int (c % 8)),.sh (.int (c / 8)),.sh (.int (c / 8 % m)),.sh kd]= [some (.lst (ns.map .int)),some (.int 3),some (.int k),some (.dic kds),some (.tup [.int p,.int s,.int m]),some (.int c),some (.int (c % 8)),some (.int (c / 8)),some (.int (c / 8 % m)),some kd] from rfl,ht,hc];simp only [if_true];have hkl:eKL (Aa 3) [some (.lst (ns.map .int)),some (.int 3),some (.int k),some (.dic kds),some (.tup [.int p,.int s,.int m]),some (.int c),some (.int (c % 8)),some (.int (c / 8)),some (.int (c / 8 % m)),some kd]=.ok (.ow (.lst ks)):=by
    show R.ok (W.ow (.lst (kds.map λp=>kD p.1)))=_;rw [h.ds]
   simp_arith [Ao,Sl.pub,hkl,De,ix2,dm,Cs (show(0:Int) < (kds.length:Int) by omega),r_0 ek]
  ·refine⟨kd,hkd, ?_⟩;unfold Bu;rw [show Bb [.sh (.lst (ns.map .int)),.sh (.int 3),.sh (.int k),.sh (.dic kds),.sh (.tup [.int p,.int s,.int m]),.sh (.int c),.sh (.int (c % 8)),.sh (.int (c / 8)),.sh (.int (c / 8 % m)),.sh kd]= [some (.lst (ns.map .int)),some (.int 3),some (.int k),some (.dic kds),some (.tup [.int p,.int s,.int m]),some (.int c),some (.int (c % 8)),some (.int (c / 8)),some (.int (c / 8 % m)),some kd] from rfl,ht];simp only [hc,Bool.false_eq_true,if_false];rfl
 obtain⟨k',hk',q6⟩:=q6;have q3:Al 6 [5] (Ae Bt (Aa 5) (eC (.int 8))) [.sh (.lst (ns.map .int)),.sh (.int 3),.sh (.int k),.sh (.dic kds),.sh (.tup [.int p,.int s,.int m]),.sh (.int c),.no,.no,.no,.no]=.nx [.sh (.lst (ns.map .int)),.sh (.int 3),.sh (.int k),.sh (.dic kds),.sh (.tup [.int p,.int s,.int m]),.sh (.int c),.sh (.int (c % 8)),.no,.no,.no]:=by
  simp_arith [Ao,Cs (show(0:Int) < 8 by decide)]
 have q4:Al 7 [5] (Ae Fx (Aa 5) (eC (.int 8))) [.sh (.lst (ns.map .int)),.sh (.int 3),.sh (.int k),.sh (.dic kds),.sh (.tup [.int p,.int s,.int m]),.sh (.int c),.sh (.int (c % 8)),.no,.no,.no]=.nx [.sh (.lst (ns.map .int)),.sh (.int 3),.sh (.int k),.sh (.dic kds),.sh (.tup [.int p,.int s,.int m]),.sh (.int c),.sh (.int (c % 8)),.sh (.int (c / 8)),.no,.no]:=by
  simp_arith [Ao,x_8 (i:=c) (show(0:Int) < 8 by decide) (by decide)]
 have q5:Al 8 [4,7] (Ae Bt (Aa 7) (Ae Be (Aa 4) (eC (.int 2)))) [.sh (.lst (ns.map .int)),.sh (.int 3),.sh (.int k),.sh (.dic kds),.sh (.tup [.int p,.int s,.int m]),.sh (.int c),.sh (.int (c % 8)),.sh (.int (c / 8)),.no,.no]=.nx [.sh (.lst (ns.map .int)),.sh (.int 3),.sh (.int k),.sh (.dic kds),.sh (.tup [.int p,.int s,.int m]),.sh (.int c),.sh (.int (c % 8)),.sh (.int (c / 8)),.sh (.int (c / 8 % m)),.no]:=by
  simp_arith [Ao,ix2,Cs hm]
 have q5':Al 9 [4,7] (Bj 1 i_3 (Ab (Ae Fx (Aa 7) (Ae Be (Aa 4) (eC (.int 2)))) Ac)) [.sh (.lst (ns.map .int)),.sh (.int 3),.sh (.int k),.sh (.dic kds),.sh (.tup [.int p,.int s,.int m]),.sh (.int c),.sh (.int (c % 8)),.sh (.int (c / 8)),.sh (.int (c / 8 % m)),.no]=.nx [.sh (.lst (ns.map .int)),.sh (.int 3),.sh (.int k),.sh (.dic kds),.sh (.tup [.int p,.int s,.int m]),.sh (.int c),.sh (.int (c % 8)),.sh (.int (c / 8)),.sh (.int (c / 8 % m)),.sh kd]:=by
  simp_arith [Ao,ix2,dm,ekd]
 have v0:=Int.emod_nonneg (c / 8) (show m≠0 by omega);have v1:=Int.emod_lt_of_pos (c / 8) hm;have fin:∀bi:Int,b=.int bi->k_3 [.lst (ns.map .int),.int 3,.int k,.dic kds,.tup [.int p,.int s,.int m]]=.ok (.sh (.tup [.int bi,k',.int (c / 8 % m)])):=λbi e=>by
  subst e;refine s_8 ?_;unfold at_7;rw [Bk q1,Bk q2,Bk q3,Bk q4,Bk q5,Bk q5',Bk q6]
  simp_arith [Ao,r_0 eb]
 rcases hb with hb|hb
 ·exact⟨0,k',_,fin 0 hb,.inl rfl,hk',v0,v1⟩
 ·exact⟨1,k',_,fin 1 hb,.inr rfl,hk',v0,v1⟩
end
theorem cu_0{α:Type}(l:List (Af×α))(k k':Af)(v:α):Bh (Cr l k v) k'=if k'=k then some v else Bh l k':=by
 cases hh:Cz l k with
 |false=>
  rw [au_8 hh,bo_9,Em,z_4]
  by_cases e:k'=k
  ·subst e;rw [if_pos rfl,if_pos rfl];unfold Cz at hh;cases h:Bh l k' with
   |none=>rfl
   |some x=>rw [h] at hh;cases hh
  ·rw [if_neg e,if_neg λz=>e z.symm];cases Bh l k' <;> rfl
 |true=>
  have e0:Cr l k v=l.map λkv=>if kv.1=k then(kv.1,v) else kv:=by
   unfold Cr;rw [bh_3,hh,if_pos rfl]
  rw [e0];clear e0;have gen:∀l:List (Af×α),Bh (l.map λkv=>if kv.1=k then(kv.1,v) else kv) k'=if k'=k then(Bh l k).map (λ_=>v) else Bh l k':=λl=>by
   induction l with
   |nil=>
    rw [List.map_nil,z_4,z_4]
    split <;> rfl
   |cons q l ih=>
    obtain⟨x,u⟩:=q;rw [List.map_cons]
    by_cases hx:x=k
    ·rw [if_pos hx,Em,Em,Em,if_pos hx,ih]
     by_cases e:k'=k
     ·rw [if_pos e,if_pos (hx.trans e.symm),if_pos e];rfl
     ·have nx:¬x=k':=λz=>e (z.symm.trans hx);simp only [nx,e,if_false]
    ·rw [if_neg hx,Em,Em,Em,if_neg hx,ih]
     by_cases e:k'=k
     ·have nx:¬x=k':=λz=>hx (z.trans e);simp only [nx,e,if_true,if_false,hx]
     ·simp only [e,if_false]
  rw [gen];unfold Cz at hh;cases h:Bh l k with
  |none=>rw [h] at hh;cases hh
  |some x=>rfl
theorem bc_1{α:Type}(k k':Af)(h:k'≠k):∀l:List (Af×α),Bh (Ei l k) k'=Bh l k'
 | []=>rfl
 |(x,u)::l=>by
  have ih:=bc_1 k k' h l;unfold Ei at ih⊢;rw [List.filter_cons]
  by_cases hx:x=k
  ·rw [if_neg (by simp [hx]),ih,Em,if_neg λz=>h (z.symm.trans hx)]
  ·rw [if_pos (by simp [hx]),Em,Em,ih]
theorem z_6{α:Type}(k:Af):∀l:List (Af×α),Bh (Ei l k) k=none
 | []=>rfl
 |(x,u)::l=>by
  have ih:=z_6 k l;unfold Ei at ih⊢;rw [List.filter_cons]
  by_cases hx:x=k
  ·rw [if_neg (by simp [hx]),ih]
  ·rw [if_pos (by simp [hx]),Em,if_neg hx,ih]
section
variable{p s m:Int}{T:List Int}{kds:List (Af×D)}{ks:List D}{d:D}{v:Int}
structure Told(p s m:Int)(T:List Int)(kds:List (Af×D)):Prop where
 rng:∀t∈T,0<=t/\t < m
 val:∀d n,Bv d->Bh kds (Bf d)=some (.int n)->n_1 T [pA d s p,pB d s p] % m=n
theorem de_4{i:Nat}(h:i < T.length):T[i]? =some (Df T i):=by
 unfold Df;rw [List.getD_eq_getElem?_getD,List.getElem?_eq_getElem h];rfl
theorem q_3(S:List Nat)(l1 l2:Int){i:Nat}(h:i < T.length):Df (Eb T S p m l1 l2) i=if i∈S then(Df T i + if(i:Int) < p then l1 else l2) % m else Df T i:=by
 have e:=aj_9 T S p m l1 l2 i;rw [de_4 h] at e;unfold Df at e⊢;rw [List.getD_eq_getElem?_getD,e];rfl
theorem bc_2(S:List Nat)(l1 l2:Int)(hm:0 < m)(h:∀t∈T,0<=t/\t < m):∀t∈Eb T S p m l1 l2,0<=t/\t < m:=λt ht=>by
 obtain⟨i,hi⟩:=List.mem_iff_getElem?.mp ht;rw [aj_9] at hi;obtain⟨n,hn,e⟩:=Option.map_eq_some_iff.mp hi;subst e
 split
 ·exact⟨Int.emod_nonneg _ (by omega),Int.emod_lt_of_pos _ hm⟩
 ·exact h n (List.mem_of_getElem? hn)
theorem w_4(a b:Nat):n_1 T [a,b]=Df T a + Df T b:=by
 unfold n_1;simp
theorem de_5{E:List Ed}{q:Nat}{x:D×Nat}(h:x∈Dm E q):(x.1,q)∈Dm E x.2:=by
 obtain⟨e,he,hx⟩:=cc_3 h;unfold Dm;refine List.mem_flatMap.mpr ⟨e,he,List.mem_append.mpr ?_⟩;rcases hx with⟨h1,rfl⟩|⟨h1,rfl⟩
 ·right;rw [if_pos rfl];exact List.mem_singleton.mpr (by rw [h1])
 ·left;rw [if_pos rfl];exact List.mem_singleton.mpr (by rw [h1])
theorem cc_5{x:D}(hx:x∈ks)(hd:Bv d)(h:KOk kds ks)(hn:x≠d):(x,pB x s p)∈Dm (Fv ks d s p) (pA x s p)/\(x,pA x s p)∈Dm (Fv ks d s p) (pB x s p):=by
 have he:(x,pA x s p,pB x s p)∈Fv ks d s p:=by
  unfold Fv;refine List.mem_map.mpr ⟨x,List.mem_filter.mpr ⟨hx, ?_⟩,rfl⟩;have:Bf x≠Bf d:=λz=>hn (ag_2 (h.key x hx) hd z);simp [this]
 unfold Dm;refine⟨List.mem_flatMap.mpr ⟨_,he,List.mem_append.mpr (.inl ?_)⟩,List.mem_flatMap.mpr ⟨_,he,List.mem_append.mpr (.inr ?_)⟩⟩
 ·rw [if_pos rfl];exact List.mem_singleton.mpr rfl
 ·rw [if_pos rfl];exact List.mem_singleton.mpr rfl
theorem apart{N:Nat->Nb}(sym:∀q,∀x∈N q,(x.1,q)∈N x.2){a b M:Nat}{B1 B2:Bs}(s1:Srch N a M B1)(s2:Srch N b M B2)(hb:b∉bK B1):∀q∈bK B2,q∉bK B1:=
 s2.g.all (λq=>q∉bK B1) hb λq hq x hx h=>hq (s1.cl _ h _ (sym q x hx))
theorem bp_2(z:Szs p s m T)(S:List Nat)(l:Int)(x:D)(hab:pA x s p∈S↔pB x s p∈S):n_1 (Eb T S p m l (-l)) [pA x s p,pB x s p] % m=n_1 T [pA x s p,pB x s p] % m:=by
 have a:=au_2 x s z.p0;have b:=au_3 x s z.p0;have tl:=z.tl;rw [w_4,w_4,q_3 S _ _ (by omega),q_3 S _ _ (by omega)]
 by_cases h:pA x s p∈S
 ·rw [if_pos h,if_pos (hab.mp h),if_pos a,if_neg (by omega),<-Int.add_emod]
  congr 1
  omega
 ·rw [if_neg h,if_neg λz=>h (hab.mpr z)]
theorem cu_1(z:Szs p s m T)(h:KOk kds ks)(hd:Bv d)(v0:0<=v)(v1:v < m)(t:Told p s m T kds){B1 B2:Bs}(s1:Srch (Dm (Fv ks d s p)) (pA d s p) (2 * p).toNat B1)(s2:Srch (Dm (Fv ks d s p)) (pB d s p) (2 * p).toNat B2):
  (∃(c:Int) (T':List Int),T'.length=T.length/\Told p s m T' (Cr kds (Bf d) (.int v))/\Ey p s m v T kds d B1 B2=.ok (.int c) (Ah p s m T' (Cr kds (Bf d) (.int v))))\/Ey p s m v T kds d B1 B2=.ex ak_0 (Ah p s m T kds):=by
 have hm:0 < m:=by have:=z.m0;omega
 have a:=au_2 d s z.p0;have b:=au_3 d s z.p0;have tl:=z.tl;have sv:v % m=v:=Int.emod_eq_of_lt v0 v1;have oth:∀T',(∀t∈T',0<=t/\t < m)->(∀x∈ks,x≠d->n_1 T' [pA x s p,pB x s p] % m=n_1 T [pA x s p,pB x s p] % m)->n_1 T' [pA d s p,pB d s p] % m=v->Told p s m T' (Cr kds (Bf d) (.int v)):=λT' hr hs hv=>by
  refine⟨hr,λx n hx e=> ?_⟩;rw [cu_0] at e
  by_cases ex:x=d
  ·subst ex;rw [if_pos rfl] at e;cases e;exact hv
  ·have ne:Bf x≠Bf d:=λq=>ex (ag_2 hx hd q);rw [if_neg ne] at e;have mem:x∈ks:=(h.has hx).mp (by unfold Cz;rw [e];rfl);rw [hs x mem ex];exact t.val x n hx e
 unfold Ey;generalize hl:o_8 T d s p m v=l;unfold o_8 at hl
 split
 ·rename_i h0;refine .inl ⟨_,_,rfl,oth T t.rng (λ_ _ _=>rfl) ?_,rfl⟩;omega
 ·split
  ·exact .inr rfl
  ·rename_i hb;have em:=Int.emod_add_mul_ediv (n_1 T [pA d s p,pB d s p]) m
   split
   ·refine .inl ⟨_,_,q_2 _ _ _ _ _ _,oth _ (bc_2 _ _ _ hm t.rng) (λx hx hn=> ?_) ?_,rfl⟩
    ·have e:=cc_5 (s:=s) (p:=p) hx hd h hn;exact bp_2 z _ l x ⟨λq=>s1.cl _ q _ e.1,λq=>s1.cl _ q _ e.2⟩
    ·rw [w_4,q_3 _ _ _ (by omega),q_3 _ _ _ (by omega),if_pos s1.g.start,if_neg hb,if_pos a,Int.emod_add_emod];rw [w_4] at hl em;rw [show Df T (pA d s p) + l + Df T (pB d s p)=v + m * ((Df T (pA d s p) + Df T (pB d s p)) / m) by omega,Int.add_mul_emod_self_left,sv]
   ·have ap:=apart (λq x hx=>de_5 hx) s1 s2 hb;have na:pA d s p∉bK B2:=λq=>ap _ q s1.g.start;refine .inl ⟨_,_,q_2 _ _ _ _ _ _,oth _ (bc_2 _ _ _ hm t.rng) (λx hx hn=> ?_) ?_,rfl⟩
    ·have e:=cc_5 (s:=s) (p:=p) hx hd h hn;have:=bp_2 z (bK B2) (-l) x ⟨λq=>s2.cl _ q _ e.1,λq=>s2.cl _ q _ e.2⟩
     rwa [Int.neg_neg] at this
    ·rw [w_4,q_3 _ _ _ (by omega),q_3 _ _ _ (by omega),if_neg na,if_pos s2.g.start,if_neg (by omega),Int.add_emod_emod];rw [w_4] at hl em;rw [show Df T (pA d s p) + (Df T (pB d s p) + l)=v + m * ((Df T (pA d s p) + Df T (pB d s p)) / m) by omega,Int.add_mul_emod_self_left,sv]
theorem ci_4(t:Told p s m T kds):Told p s m T (Ei kds (Bf d)):=⟨t.rng,λx n hx e=>by
 by_cases ex:Bf x=Bf d
 ·rw [ex,z_6] at e;cases e
 ·rw [bc_1 _ _ ex] at e;exact t.val x n hx e⟩
end
theorem ag_5{d:D}(h:Bv d):k_1 [d]=.ok (.sh (.int (Cd d))):=by
 have m2:=λj:Int=>j_1 (m_1 (j:=j) (show(-18446744073709551616:Int) < 2 by decide) (by decide));rcases h with⟨n,rfl,h0,h1⟩|⟨l,rfl,hl,hc⟩
 ·simp_arith [k_1,y_7,Ao,m2,Cd]
 ·obtain⟨Δ',e,a2,rfl⟩:=q_0 (gV 2) t_5 (λk Δ=>∃a2,Δ= [.sh (.str (Bx l)),.sh (.int (Eo (l.take k))),a2]) (ds:=s_6 (Bx l)) (Δ:=[.sh (.str (Bx l)),.sh (.int 0),.no]) ⟨.no,rfl⟩ (λk d Δ hk hI=>by
   obtain⟨a2,rfl⟩:=hI;rw [o_7,List.getElem?_map] at hk;cases q:l[k]? with
   |none=>rw [q] at hk;cases hk
   |some c=>
    rw [q] at hk;cases hk;refine⟨_,rfl,[.sh (.str (Bx l)),.sh (.int (Eo (l.take (k + 1)))),.sh (.str ⟨#[c]⟩)],.inl ?_,_,rfl⟩;rw [am_1 l k c q,show 40 * Eo (l.take k) + (sgI c:Int) + 1=40 * Eo (l.take k) + 1 + (sgI c:Int) by omega]
    simp_arith [t_5,Ao,j_1 (m_1 (show(-18446744073709551616:Int) < 40 by decide) (by decide)),beq_self_eq_true,cs_5 (hc c (List.mem_of_getElem? q)),j_7])
  rw [o_7,List.length_map,List.take_length] at e
  simp_arith [k_1,y_7,Ao,Du,o_7,e,m2,j_7,Cd,k_4]
theorem bp_3(n:Int):k_0 [.int n]=.ok (.sh (.bl true)):=by
 simp_arith [k_0,al_3,Ao]
section
variable{p s m:Int}{T:List Int}{kds:List (Af×D)}{ks:List D}{d:D}
abbrev Bg(p s m:Int):D:=.tup [.int p,.int s,.int m]
theorem ax_5(z:Szs p s m T)(h:Bv d):j_3 [d,Bg p s m]=.ok (.sh (.tup (zi [pA d s p,pB d s p]))):=by
 have p0:=z.p0;have s0:=z.s0;have s1:=z.s1;have m1:=j_1 (m_1 (i:=4) (j:=s) (by decide) (by decide));have e1:=(au_0 (Cd d) (4 * s) p (by omega) (by omega) p0).2;have e2:=(au_0 (Cd d) (4 * s + 1) p (by omega) (by omega) p0).2;have a0:=q_1 (Cd d) (4 * s + 0) p0;have b0:=q_1 (Cd d) (4 * s + 1) p0;have ea:s_0 (Cd d) (4 * s) p=((pA d s p:Nat):Int):=by unfold pA;rw [Int.add_zero] at a0⊢;omega
 have eb:p + s_0 (Cd d) (4 * s + 1) p=((pB d s p:Nat):Int):=by unfold pB;omega
 rw [ea] at e1
 simp_arith [j_3,af_7,Ao,Bg,sUnp,ba_3,gNs,ag_5 h,m1,j_7,e1,e2,eb,zi]
theorem av_2(z:Szs p s m T)(t:Told p s m T kds):f_1 [Bi p s m T kds,Bg p s m]=.ok (.sh (.bl true)):=by
 have tl:=z.tl;have p1:=z.p1;have e1:∀δ,By "table" 0 [("Living",b_7)] (Aa 0) Ac (some (Bi p s m T kds)::δ)=.ok (.ow (.lst (T.map .int))):=λ δ=>(met0 rfl (by decide +kernel)).trans (au_1 (by omega));have i0:Be (Bg p s m) (.int 0)=.ok (.sh (.int p)):=rfl;have i2:Be (Bg p s m) (.int 2)=.ok (.sh (.int m)):=rfl;have m2:=j_1 (m_1 (i:=2) (j:=p) (by decide) (by decide));have ne:Cn (.int ((T.map D.int).length:Int)) (.int (2 * p))=.ok (.sh (.bl false)):=by
  rw [ao_6,List.length_map,decide_eq_true tl];rfl
 have hc:=m_2 (fg:=gC 3) (p:=h_7) (f:=Aa 3) (δ:=[some (Bi p s m T kds),some (Bg p s m),some (.lst (T.map .int)),none]) (λ_=>false) (λd=>d) (T.map .int) λd hd=>by
  obtain⟨n,hn,rfl⟩:=List.mem_map.mp hd;obtain⟨n0,n1⟩:=t.rng n hn;refine⟨[some (Bi p s m T kds),some (Bg p s m),some (.lst (T.map .int)),some (.int n)],rfl, ?_,λq=>by cases q⟩
  simp_arith [h_7,Ao,bp_3,i2,q_5,ak_7,af_0,n0,n1]
 rw [List.filter_eq_nil_iff.mpr λ_ _=>Bool.false_ne_true,List.map_nil] at hc;have ec:=o_2 (m:=1) (fi:=Es (Aa 2)) (fg:=gC 3) (p:=h_7) (f:=Aa 3) (δ:=[some (Bi p s m T kds),some (Bg p s m),some (.lst (T.map .int))]) (ds:=T.map .int) (by simp_arith [Ao]) (by rw [List.length_map];omega) hc;have q0:Ec (.lst []) (.lst [])=.ok (.sh (.bl true)):=ag_1 3 rfl
 simp_arith [f_1,s_9,Ao,e1,s_7,i0,m2,ne,ec,q0]
theorem bp_4(z:Szs p s m T)(h:Bv d):k_2 [Bi p s m T kds,Bg p s m,d,.lst (T.map .int)]=.ok (.sh (.int (n_1 T [pA d s p,pB d s p] % m))):=by
 have a:=au_2 d s z.p0;have b:=au_3 d s z.p0;have tl:=z.tl;have hm:0 < m:=by have:=z.m0;omega
 have el:=ax_5 z h;have hp:=aa_9 (m:=m) (T:=T) (kds:=kds) h z.s0 z.s1 z.p0 (by have:=z.p1;omega);rw [w_3 d s z.p0] at hp;have e2:∀a3 a4 a5 a6 a7:Option D,By "places" 1 [("Living",b_5)] (Aa 0) (Ab (Aa 2) Ac) [some (Bi p s m T kds),some (Bg p s m),some d,a3,a4,a5,a6,a7]=.ok (.sh (.tup (zi [pA d s p,pB d s p]))):=λ_ _ _ _ _=>(met1 (w:=.sh d) rfl rfl (by decide +kernel)).trans hp;have e4:∀a3 a4 a5 a6 a7:Option D,By "value" 1 [("Living",c_6)] (Aa 0) (Ab (Aa 2) Ac) [some (Bi p s m T kds),some (Bg p s m),some d,a3,a4,a5,a6,a7]=.ok (.sh (.int (n_1 T [pA d s p,pB d s p] % m))):=λ_ _ _ _ _=>(met1 (w:=.sh d) rfl rfl (by decide +kernel)).trans (bo_8 z h);have nt:Cn (.tup (zi [pA d s p,pB d s p])) (.tup (zi [pA d s p,pB d s p]))=.ok (.sh (.bl false)):=cr_6 3 (by simp [zi,Fa]);have nt2:Cn (.tup (zi [pA d s p,pB d s p])) (.tup [.int (pA d s p:Int),.int (pB d s p:Int)])=.ok (.sh (.bl false)):=nt;have i0:Be (.tup (zi [pA d s p,pB d s p])) (.int 0)=.ok (.sh (.int (pA d s p:Int))):=rfl;have i2:Be (Bg p s m) (.int 2)=.ok (.sh (.int m)):=rfl;have ia:Be (.lst (T.map .int)) (.int (pA d s p:Int))=.ok (.sh (.int (Df T (pA d s p)))):=r_0 (bu_8 (by omega));have ib:Be (.lst (T.map .int)) (.int (pB d s p:Int))=.ok (.sh (.int (Df T (pB d s p)))):=r_0 (bu_8 (by omega));have nv:Cn (.int (n_1 T [pA d s p,pB d s p] % m)) (.int ((Df T (pA d s p) + Df T (pB d s p)) % m))=.ok (.sh (.bl false)):=by
  rw [ao_6,w_4,decide_eq_true rfl];rfl
 have el':j_3 [d,Bg p s m]=.ok (.sh (.tup [.int (pA d s p:Int),.int (pB d s p:Int)])):=el;refine s_8 ?_;unfold al_7;rw [show Bd 8 [Bi p s m T kds,Bg p s m,d,.lst (T.map .int)]= [.sh (Bi p s m T kds),.sh (Bg p s m),.sh d,.sh (.lst (T.map .int)),.no,.no,.no,.no] from rfl];have q1:sUnp (gP 6 7) [1,2] (Bj 2 j_3 (Ab (Aa 2) (Ab (Aa 1) Ac))) [.sh (Bi p s m T kds),.sh (Bg p s m),.sh d,.sh (.lst (T.map .int)),.no,.no,.no,.no]=.nx [.sh (Bi p s m T kds),.sh (Bg p s m),.sh d,.sh (.lst (T.map .int)),.no,.no,.sh (.int (pA d s p:Int)),.sh (.int (pB d s p:Int))]:=by
  simp_arith [sUnp,Ao,el',gP]
 have q2:Al 4 [0,2] (By "places" 1 [("Living",b_5)] (Aa 0) (Ab (Aa 2) Ac)) [.sh (Bi p s m T kds),.sh (Bg p s m),.sh d,.sh (.lst (T.map .int)),.no,.no,.sh (.int (pA d s p:Int)),.sh (.int (pB d s p:Int))]=.nx [.sh (Bi p s m T kds),.sh (Bg p s m),.sh d,.sh (.lst (T.map .int)),.sh (.tup (zi [pA d s p,pB d s p])),.no,.sh (.int (pA d s p:Int)),.sh (.int (pB d s p:Int))]:=by
  simp_arith [Ao,e2]
 have q3:Bu [4,6,7] (Fj (Bm (Ax (eIs "tuple" (Aa 4)))) (Fj (Ak (Ae Cn (Aa 4) (Cg (Ab (Aa 6) (Ab (Aa 7) Ac))))) (Ax (eIs "bool" (Ae Be (Aa 4) (eC (.int 0))))))) (At [] (eC .non)) Az [.sh (Bi p s m T kds),.sh (Bg p s m),.sh d,.sh (.lst (T.map .int)),.sh (.tup (zi [pA d s p,pB d s p])),.no,.sh (.int (pA d s p:Int)),.sh (.int (pB d s p:Int))]=.nx [.sh (Bi p s m T kds),.sh (Bg p s m),.sh d,.sh (.lst (T.map .int)),.sh (.tup (zi [pA d s p,pB d s p])),.no,.sh (.int (pA d s p:Int)),.sh (.int (pB d s p:Int))]:=by
  simp_arith [Ao,nt2,i0]
 have q4:Al 5 [0,2] (By "value" 1 [("Living",c_6)] (Aa 0) (Ab (Aa 2) Ac)) [.sh (Bi p s m T kds),.sh (Bg p s m),.sh d,.sh (.lst (T.map .int)),.sh (.tup (zi [pA d s p,pB d s p])),.no,.sh (.int (pA d s p:Int)),.sh (.int (pB d s p:Int))]=.nx [.sh (Bi p s m T kds),.sh (Bg p s m),.sh d,.sh (.lst (T.map .int)),.sh (.tup (zi [pA d s p,pB d s p])),.sh (.int (n_1 T [pA d s p,pB d s p] % m)),.sh (.int (pA d s p:Int)),.sh (.int (pB d s p:Int))]:=by
  simp_arith [Ao,e4]
 have q5:Bu [1,3,5,6,7] (Fj (Bm (Ax (Bj 1 k_0 (Ab (Aa 5) Ac)))) (Ak (Ae Cn (Aa 5) (Ae Bt (Ae Bp (Ae Be (Aa 3) (Aa 6)) (Ae Be (Aa 3) (Aa 7))) (Ae Be (Aa 1) (eC (.int 2))))))) (At [] (eC .non)) Az [.sh (Bi p s m T kds),.sh (Bg p s m),.sh d,.sh (.lst (T.map .int)),.sh (.tup (zi [pA d s p,pB d s p])),.sh (.int (n_1 T [pA d s p,pB d s p] % m)),.sh (.int (pA d s p:Int)),.sh (.int (pB d s p:Int))]=.nx [.sh (Bi p s m T kds),.sh (Bg p s m),.sh d,.sh (.lst (T.map .int)),.sh (.tup (zi [pA d s p,pB d s p])),.sh (.int (n_1 T [pA d s p,pB d s p] % m)),.sh (.int (pA d s p:Int)),.sh (.int (pB d s p:Int))]:=by
  simp_arith [Ao,bp_3,ia,ib,i2,j_7,Cs hm,nv]
 rw [Bk q1,Bk q2,Bk q3,Bk q4,Bk q5];rfl
end
theorem av_3{α:Type}:∀{l:List (Af×α)} {k:Af} {v:α},(l.map (·.1)).Nodup->(k,v)∈l->Bh l k=some v
 | [],_,_,_,h=>by cases h
 |(x,u)::l,k,v,nd,h=>by
  rw [List.map_cons,List.nodup_cons] at nd;rw [Em];rcases List.mem_cons.mp h with e|e
  ·cases e;rw [if_pos rfl]
  ·have:x≠k:=λz=>nd.1 (List.mem_map.mpr ⟨_,e,z.symm⟩);rw [if_neg this];exact av_3 nd.2 e
theorem cc_6(g:D->D)(p:Int×D):∀l:List (Int×D),Ff (p.1,g p.2) (l.map λq=>(q.1,g q.2))=(Ff p l).map λq=>(q.1,g q.2)
 | []=>rfl
 |q::l=>by
  rw [List.map_cons];unfold Ff
  by_cases h:p.1<=q.1
  ·rw [if_pos h,if_pos h];rfl
  ·rw [if_neg h,if_neg h,cc_6 g p l];rfl
theorem bp_5(g:D->D):∀l:List (Int×D),u_5 (l.map λq=>(q.1,g q.2))=(u_5 l).map λq=>(q.1,g q.2)
 | []=>rfl
 |q::l=>by
  rw [List.map_cons];unfold u_5;rw [bp_5 g l];exact cc_6 g q (u_5 l)
section
variable{p s m:Int}{T:List Int}{kds:List (Af×D)}{ks:List D}{d x:D}
def am_2(kds:List (Af×D))(d:D):D:=(Bh kds (Bf d)).getD .non
theorem KOk.fst(h:KOk kds ks):(kds.map (·.1)).Nodup:=by
 rw [h.eq];exact ab_1 (λx hx y hy e=>ag_2 (h.key x hx) (h.key y hy) e) h.nd
theorem KOk.row(h:KOk kds ks){q:Af×D}(hq:q∈kds):∃d n,d∈ks/\Bv d/\kD q.1=d/\q.1=Bf d/\q.2=.int n/\Bh kds (Bf d)=some (.int n):=by
 have hm:q.1∈ks.map Bf:=by rw [<-h.eq];exact List.mem_map.mpr ⟨q,hq,rfl⟩
 obtain⟨d,hd,e⟩:=List.mem_map.mp hm;obtain⟨n,en⟩:=h.val q hq;refine⟨d,n,hd,h.key d hd,by rw [<-e,ct_1 (h.key d hd)],e.symm,en, ?_⟩;rw [e,<-en];exact av_3 h.fst hq
theorem KOk.pairs(h:KOk kds ks)(f:D->D->D):(kds.map λq=>f (kD q.1) q.2)=ks.map λd=>f d (am_2 kds d):=by
 have e:(kds.map λq=>f (kD q.1) q.2)=kds.map λq=>f (kD q.1) (am_2 kds (kD q.1)):=List.map_congr_left λq hq=>by
  obtain⟨d,n,_,_,e1,e2,e3,e4⟩:=h.row hq;unfold am_2;rw [e1,e4,e3];rfl
 rw [e,show(kds.map λq=>f (kD q.1) (am_2 kds (kD q.1)))=(kds.map λq=>kD q.1).map λd=>f d (am_2 kds d) by rw [List.map_map];rfl,h.ds]
def Fe(kds:List (Af×D))(d:D):D:=.tup [.int (Cd d),d,am_2 kds d]
theorem am_3:∀ks:List D,n_7 (ks.map (Fe kds))=some (ks.map Cd)
 | []=>rfl
 |d::ks=>by
  rw [List.map_cons,List.map_cons];show(n_7 (ks.map (Fe kds))).map _=_;rw [am_3 ks];rfl
theorem ci_5(h:KOk kds ks):ba_9 [.lst (ks.map (Fe kds))]=.ok (.ow (.lst ((Fq ks).map (Fe kds)))):=by
 have nd:(ks.map Cd).Nodup:=ab_1 (λx hx y hy e=>bb_7 (h.key x hx) (h.key y hy) e) h.nd;have hl:=h.len;have hz:(ks.map Cd).zip (ks.map (Fe kds))=(ks.map λd=>(Cd d,d)).map λq=>(q.1,Fe kds q.2):=by
  rw [List.zip_map',List.map_map];rfl
 show(match n_7 (ks.map (Fe kds)) with
  |some kz=>if kz.length < 64/\kz.Nodup then R.ok (W.ow (.lst ((u_5 (kz.zip (ks.map (Fe kds)))).map λx:Int×D=>x.2))) else .no
  |none=> .no)=_
 rw [am_3];simp only [List.length_map,show ks.length < 64 by omega,nd,and_self,if_true];rw [hz,bp_5,List.map_map];unfold Fq;rw [List.map_map];rfl
theorem ci_6(h:KOk kds ks)(δ:DE)(hδ:δ.length=8)(h1:δ[1]? =some (some (.dic kds))):Cc 2 (Ep (Aa 1)) (gC2 8 9) (λ_=> .ok true) j_6 δ=.ok (.ow (.lst (ks.map (Fe kds)))):=by
 have ei:Ep (Aa 1) δ=.ok (kds.map λq=> .tup [kD q.1,q.2]):=by
  have:Aa 1 δ=.ok (.sh (.dic kds)):=by unfold Aa;rw [h1]
  unfold Ep;rw [this];rfl
 match δ,hδ,ei with
 | [a0,a1,a2,a3,a4,a5,a6,a7],_,ei=>
  have hc:=m_2 (fg:=gC2 8 9) (p:=λ_=> .ok true) (f:=j_6) (δ:=[a0,a1,a2,a3,a4,a5,a6,a7,none,none]) (λ_=>true) (λt=>match t with| .tup [k,v]=> .tup [.int (Cd k),k,v]|t=>t) (kds.map λq=> .tup [kD q.1,q.2]) λt ht=>by
   obtain⟨q,hq,rfl⟩:=List.mem_map.mp ht;obtain⟨d,n,hd,hk,e1,e2,e3,e4⟩:=h.row hq;rw [e1,e3];refine⟨[a0,a1,a2,a3,a4,a5,a6,a7,some d,some (.int n)],rfl,rfl,λ_=>⟨.sh (.tup [.int (Cd d),d,.int n]), ?_,rfl⟩⟩
   simp_arith [j_6,Ao,ag_5 hk]
  rw [List.filter_eq_self.mpr λ_ _=>rfl,List.map_map] at hc;have ee:(kds.map ((λt:D=>match t with| .tup [k,v]=>D.tup [.int (Cd k),k,v]|t=>t) ∘ λq:Af×D=>D.tup [kD q.1,q.2]))=ks.map (Fe kds):=(h.pairs λk v=>D.tup [.int (Cd k),k,v]);rw [ee] at hc;exact o_2 (m:=2) ei (by rw [List.length_map,h.length];have:=h.len;omega) hc
theorem ci_7(h:KOk kds ks)(δ:DE)(hδ:δ.length=8)(h5:δ[5]? =some (some (.lst ((Fq ks).map (Fe kds))))):Cc 3 (Es (Aa 5)) (gC3 8 9 10) (λ_=> .ok true) l_5 δ=.ok (.ow (.lst (Dz kds ks))):=by
 have ei:Es (Aa 5) δ=.ok ((Fq ks).map (Fe kds)):=by
  have:Aa 5 δ=.ok (.sh (.lst ((Fq ks).map (Fe kds)))):=by unfold Aa;rw [h5]
  unfold Es;rw [this];rfl
 match δ,hδ,ei with
 | [a0,a1,a2,a3,a4,a5,a6,a7],_,ei=>
  have hc:=m_2 (fg:=gC3 8 9 10) (p:=λ_=> .ok true) (f:=l_5) (δ:=[a0,a1,a2,a3,a4,a5,a6,a7,none,none,none]) (λ_=>true) (λt=>match t with| .tup [_,k,v]=> .tup [k,v]|t=>t) ((Fq ks).map (Fe kds)) λt ht=>by
   obtain⟨d,hd,rfl⟩:=List.mem_map.mp ht;refine⟨[a0,a1,a2,a3,a4,a5,a6,a7,some (.int (Cd d)),some d,some (am_2 kds d)],rfl,rfl,λ_=>⟨.sh (.tup [d,am_2 kds d]), ?_,rfl⟩⟩
   simp_arith [l_5,Ao]
  rw [List.filter_eq_self.mpr λ_ _=>rfl,List.map_map] at hc;exact o_2 (m:=3) ei (by rw [List.length_map,(k_9 ks).length_eq];have:=h.len;omega) hc
end
section
variable{p s m:Int}{T:List Int}{kds:List (Af×D)}{ks:List D}{x:D}
theorem av_4(z:Szs p s m T)(h:KOk kds ks)(t:Told p s m T kds)(hx:Bv x):i_6 [Bi p s m T kds,.dic kds,Bg p s m,x]=.ok (.sh (.bl true)):=by
 have tl:=z.tl;have p1:=z.p1;have er:=av_2 z t;have e1:∀δ,By "table" 0 [("Living",b_7)] (Aa 0) Ac (some (Bi p s m T kds)::δ)=.ok (.ow (.lst (T.map .int))):=λ δ=>(met0 rfl (by decide +kernel)).trans (au_1 (by omega));have e2:∀δ,By "kept" 0 [("Living",c_4)] (Aa 0) Ac (some (Bi p s m T kds)::δ)=.ok (.ow (.lst (Dz kds ks))):=λ δ=>(met0 rfl (by decide +kernel)).trans (cb_7 h);have et:=bp_4 (kds:=kds) z hx;have nk:Cn (.lst (Dz kds ks)) (.lst (Dz kds ks))=.ok (.sh (.bl false)):=by
  refine dd_7 ?_ (λy q=>by cases q);show(Dz kds ks).all (Fa 2)=true;exact at_8 (List.all_eq_true.mpr λx hx=>(bb_8 h x hx).2) λd=>cr_7
 have et2:Ec (.lst (T.map .int)) (.lst (T.map .int))=.ok (.sh (.bl true)):=ag_1 2 (List.all_eq_true.mpr λx hx=>by obtain⟨i,_,rfl⟩:=List.mem_map.mp hx;rfl);have row:∀q∈kds,k_2 [Bi p s m T kds,Bg p s m,kD q.1,.lst (T.map .int)]=.ok (.sh q.2)/\∃n,q.2=.int n:=λq hq=>by
  obtain⟨d,n,hd,hk,a1,a2,a3,a4⟩:=h.row hq;rw [a1,a3,bp_4 z hk,t.val d n hk a4];exact⟨rfl,n,rfl⟩
 generalize hL:Bi p s m T kds=L at *
 let I:Nat->SE->Prop:=λ_ Δ=>∃a6 a7:Sl,Δ= [.sh L,.sh (.dic kds),.sh (Bg p s m),.sh x,.ow (.lst (T.map .int)),.no,a6,a7]
 obtain⟨Δ',el,a6,a7,rfl⟩:=q_0 (gV2 6 7) l_4 I (ds:=kds.map λq=> .tup [kD q.1,q.2]) (Δ:=[.sh L,.sh (.dic kds),.sh (Bg p s m),.sh x,.ow (.lst (T.map .int)),.no,.no,.no]) ⟨_,_,rfl⟩ (λi d Δ hd ⟨a6,a7,e⟩=>by
  subst e;rw [List.getElem?_map] at hd;obtain⟨q,hq,rfl⟩:=Option.map_eq_some_iff.mp hd;obtain⟨e3,n,e4⟩:=row q (List.mem_of_getElem? hq);rw [e4] at e3⊢;refine⟨_,rfl,_,.inl ?_,.sh (kD q.1),.sh (.int n),rfl⟩;have ne:Cn (.int n) (.int n)=.ok (.sh (.bl false)):=by rw [ao_6,decide_eq_true rfl];rfl
  simp_arith [l_4,Ao,Sl.any,e3,ne])
 refine s_8 ?_;unfold al_8;rw [show Bd 8 [L,.dic kds,Bg p s m,x]= [.sh L,.sh (.dic kds),.sh (Bg p s m),.sh x,.no,.no,.no,.no] from rfl];have q1:Bu [0,2] (Bm (Ax (Bj 2 f_1 (Ab (Aa 0) (Ab (Aa 2) Ac))))) (At [] (eC (.bl false))) Az [.sh L,.sh (.dic kds),.sh (Bg p s m),.sh x,.no,.no,.no,.no]=.nx [.sh L,.sh (.dic kds),.sh (Bg p s m),.sh x,.no,.no,.no,.no]:=by
  simp_arith [Ao,er]
 have q2:Al 4 [0] (By "table" 0 [("Living",b_7)] (Aa 0) Ac) [.sh L,.sh (.dic kds),.sh (Bg p s m),.sh x,.no,.no,.no,.no]=.nx [.sh L,.sh (.dic kds),.sh (Bg p s m),.sh x,.ow (.lst (T.map .int)),.no,.no,.no]:=by
  simp_arith [Ao,e1]
 have q3:bo_1 [1] (Aa 1) (gV2 6 7) l_4 [.sh L,.sh (.dic kds),.sh (Bg p s m),.sh x,.ow (.lst (T.map .int)),.no,.no,.no]=.nx [.sh L,.sh (.dic kds),.sh (Bg p s m),.sh x,.ow (.lst (T.map .int)),.no,a6,a7]:=by
  have ei:Ep (Aa 1) (As [.sh L,.sh (.dic kds),.sh (Bg p s m),.sh x,.ow (.lst (T.map .int)),.no,.no,.no])=.ok (kds.map λq=> .tup [kD q.1,q.2]):=rfl;unfold bo_1;rw [ei];show ba_8 (Dw (gV2 6 7) l_4 (kds.map λq=> .tup [kD q.1,q.2]) _)=_;rw [el];rfl
 have q4:Al 5 [1] (Aq ba_9 (Ab (Cc 2 (Ep (Aa 1)) (gC2 8 9) (λ_=> .ok true) j_6) Ac)) [.sh L,.sh (.dic kds),.sh (Bg p s m),.sh x,.ow (.lst (T.map .int)),.no,a6,a7]=.nx [.sh L,.sh (.dic kds),.sh (Bg p s m),.sh x,.ow (.lst (T.map .int)),.ow (.lst ((Fq ks).map (Fe kds))),a6,a7]:=by
  have hr:=λ δ h1 h2=>ci_6 h δ h1 h2;have e3:=hr (As [.sh L,.sh (.dic kds),.sh (Bg p s m),.sh x,.ow (.lst (T.map .int)),.no,a6,a7]) rfl rfl;have e4:=ci_5 h;have e5:Aq ba_9 (Ab (Cc 2 (Ep (Aa 1)) (gC2 8 9) (λ_=> .ok true) j_6) Ac) (As [.sh L,.sh (.dic kds),.sh (Bg p s m),.sh x,.ow (.lst (T.map .int)),.no,a6,a7])=.ok (.ow (.lst ((Fq ks).map (Fe kds)))):=by
   unfold Aq Ab Ac;rw [e3];exact e4
  unfold Al;rw [e5];rfl
 have q5:Bu [0,5] (Ak (Ae Cn (By "kept" 0 [("Living",c_4)] (Aa 0) Ac) (Cc 3 (Es (Aa 5)) (gC3 8 9 10) (λ_=> .ok true) l_5))) (At [] (eC (.bl false))) Az [.sh L,.sh (.dic kds),.sh (Bg p s m),.sh x,.ow (.lst (T.map .int)),.ow (.lst ((Fq ks).map (Fe kds))),a6,a7]=.nx [.sh L,.sh (.dic kds),.sh (Bg p s m),.sh x,.ow (.lst (T.map .int)),.ow (.lst ((Fq ks).map (Fe kds))),a6,a7]:=by
  have e3:=ci_7 h (Bb [.sh L,.sh (.dic kds),.sh (Bg p s m),.sh x,.ow (.lst (T.map .int)),.ow (.lst ((Fq ks).map (Fe kds))),a6,a7]) rfl rfl;have e4:By "kept" 0 [("Living",c_4)] (Aa 0) Ac (Bb [.sh L,.sh (.dic kds),.sh (Bg p s m),.sh x,.ow (.lst (T.map .int)),.ow (.lst ((Fq ks).map (Fe kds))),a6,a7])=.ok (.ow (.lst (Dz kds ks))):=e2 _;unfold Bu Ak Ae;rw [e4,R.bind_ok,e3,R.bind_ok];simp only [W.d_ow,nk];rfl
 have q6:At [0,2,3,4] (eAnd (Ae (isND true) (Bj 4 k_2 (Ab (Aa 0) (Ab (Aa 2) (Ab (Aa 3) (Ab (Aa 4) Ac))))) (eC .non)) (Ae Ec (By "table" 0 [("Living",b_7)] (Aa 0) Ac) (Aa 4))) [.sh L,.sh (.dic kds),.sh (Bg p s m),.sh x,.ow (.lst (T.map .int)),.ow (.lst ((Fq ks).map (Fe kds))),a6,a7]=.rt (.sh (.bl true)):=by
  simp_arith [Ao,Sl.any,et,e1,et2]
 rw [Bk q1,Bk q2,Bk q3,Bk q4,Bk q5,q6]
theorem bv_8(z:Szs p s m T)(h:KOk kds ks):n_9 [Bi p s m T kds]=.ok (.sh (.bl true)):=by
 have tl:=z.tl;have p1:=z.p1;have e1:∀δ,By "table" 0 [("Living",b_7)] (Aa 0) Ac (some (Bi p s m T kds)::δ)=.ok (.ow (.lst (T.map .int))):=λ δ=>(met0 rfl (by decide +kernel)).trans (au_1 (by omega));have e2:∀δ,By "kept" 0 [("Living",c_4)] (Aa 0) Ac (some (Bi p s m T kds)::δ)=.ok (.ow (.lst (Dz kds ks))):=λ δ=>(met0 rfl (by decide +kernel)).trans (cb_7 h);have t1:∀T:List Int,Dx (T.map .int)=true:=λT=>by
  induction T with
  |nil=>simp only [List.map_nil,Dx]
  |cons a T ih=>simp only [List.map_cons,Dx,Do,ih,Bool.and_self]
 have t2:Dx (Dz kds ks)=true:=by
  have all:∀l:List D,(∀d∈l,Do d=true)->Dx l=true:=λl=>by
   induction l with
   |nil=>intro _;simp only [Dx]
   |cons a l ih=>intro hl;simp only [Dx,hl a (.head _),ih λd hd=>hl d (.tail _ hd),Bool.and_self]
  refine all _ λd hd=> ?_;obtain⟨k,hk,rfl⟩:=List.mem_map.mp hd;have hm:=(k_9 ks).mem_iff.mp hk;obtain⟨n,en⟩:=h.get hm;have hkk:Do k=true:=by rcases h.key k hm with⟨n,rfl,_⟩|⟨l,rfl,_⟩ <;> simp only [Do]
  rw [en];simp only [Option.getD_some,Do,Dx,hkk,Bool.and_self]
 have kl:(Dz kds ks).length < 16777216:=by rw [ct_4 h,h.length];have:=h.len;omega
 have es:=dd_6 (T:=T) h;unfold snap at es;generalize hL:Bi p s m T kds=L at *
 refine s_8 ?_;unfold ac_0;rw [show Bd 4 [L]= [.sh L,.no,.no,.no] from rfl];have q1:Al 1 [0] (By "table" 0 [("Living",b_7)] (Aa 0) Ac) [.sh L,.no,.no,.no]=.nx [.sh L,.ow (.lst (T.map .int)),.no,.no]:=by
  simp_arith [Ao,e1]
 have q2:Al 2 [0] (By "kept" 0 [("Living",c_4)] (Aa 0) Ac) [.sh L,.ow (.lst (T.map .int)),.no,.no]=.nx [.sh L,.ow (.lst (T.map .int)),.ow (.lst (Dz kds ks)),.no]:=by
  simp_arith [Ao,e2]
 have q3:m_9 3 (bo_3 (at_2 1) (at_2 2)) [.sh L,.ow (.lst (T.map .int)),.ow (.lst (Dz kds ks)),.no]=.nx [.sh L,.ow (.lst (T.map .int)),.ow (.lst (Dz kds ks)),.sh (.lst [.lst (T.map .int),.lst (Dz kds ks)])]:=by
  simp_arith [m_9,bo_3,at_2,Ao,t1,t2]
 have q4:bg_2 1 [.sh L,.ow (.lst (T.map .int)),.ow (.lst (Dz kds ks)),.sh (.lst [.lst (T.map .int),.lst (Dz kds ks)])]=.nx [.sh L,.ow (.lst []),.ow (.lst (Dz kds ks)),.sh (.lst [.lst (T.map .int),.lst (Dz kds ks)])]:=rfl;have q5:sApp 2 (Cg (Ab (eC (.int 7)) (Ab (eC (.int 0)) Ac))) [.sh L,.ow (.lst []),.ow (.lst (Dz kds ks)),.sh (.lst [.lst (T.map .int),.lst (Dz kds ks)])]=.nx [.sh L,.ow (.lst []),.ow (.lst (Dz kds ks ++ [.tup [.int 7,.int 0]])),.sh (.lst [.lst (T.map .int),.lst (Dz kds ks)])]:=by
  unfold sApp
  simp_arith [Ao,if_pos kl]
 rw [Bk q1,Bk q2,Bk q3,Bk q4,Bk q5]
 simp_arith [Ao,Sl.any,e1,e2,es]
end
section
variable{p s m:Int}{T T2:List Int}{kds aa:List (Af×D)}{ks ks2:List D}{d:D}{v:Int}
theorem ds_7{i n:Nat}{mn:Str}{M:Tn->List D->RR}{ga:SE->R (List D)}{Δ:SE}{ds:List D}(hb:(Δ[i]?).bind Sl.tree=some (Ah p s m T kds,false))(hm:lN.contains mn=false)(hg:ga Δ=.ok ds)(hl:ds.length=n):o_3 i n mn "Living" M ga Δ=goR i false Δ (M (Ah p s m T kds) ds):=by
 unfold o_3;rw [hb];unfold Ah;simp only [hm,and_self,if_true,hg,hl]
theorem cu_2{i n:Nat}{M:Tn->List D->RR}{ga:SE->R (List D)}{Δ:SE}{ds:List D}(hb:(Δ[i]?).bind Sl.tree=some (Ah p s m T kds,false))(hg:ga Δ=.ok ds)(hl:ds.length=n):r_3 i n M ga Δ=goR i false Δ (M (Ah p s m T kds) ds):=by
 unfold r_3;rw [hb];unfold Ah;simp only [hg,hl,if_true]
variable{nsD sz:D}{k:Int}{a6 a7 a8:Sl}
abbrev Cf(nsD sz:D)(t tb:Tn)(kds:List (Af×D))(k:Int)(a6 a7 a8:Sl):SE:=[.sh nsD,.sh sz,.tr t,.tr tb,.ow (.dic kds),.sh (.int k),a6,a7,a8]
theorem do_1{t tb:Tn}:m_8 [4] (Cf nsD sz t tb kds k a6 a7 a8)=true:=by
 have h:(Tn.of (.dic kds)).lends=true:=by
  show Tn.lends (.dic (kds.map λp=>(p.1,.sh p.2)))=true;simp only [Tn.lends,aj_7]
 show(Tn.of (.dic kds)).lends && true=true;rw [h];rfl
theorem cu_3(ns:List Int)(hns:ns.length<=63)(hk0:0<=k)(hk1:k<=60)(z:Szs p s m T)(h:KOk kds ks)(t:Told p s m T kds)(z2:Szs p s m T2)(h2:KOk aa ks2)(hl:ks.length < 60)(hl2:ks2.length < 60):
  ∃(T' T2':List Int) (ae ai:List (Af×D)) (ks' ax:List D) (b6 b7 b8:Sl),ap_1 (Cf (.lst (ns.map .int)) (Bg p s m) (Ah p s m T kds) (Ah p s m T2 aa) kds k a6 a7 a8)=.nx (Cf (.lst (ns.map .int)) (Bg p s m) (Ah p s m T' ae) (Ah p s m T2' ai) ae k b6 b7 b8)/\Szs p s m T'/\KOk ae ks'/\Told p s m T' ae/\Szs p s m T2'/\KOk ai ax/\ks'.length<=ks.length + 1/\ax.length<=ks2.length + 1:=by
 have hm:0 < m:=by have:=z.m0;omega
 obtain⟨b,d,v,ed,hb,hd,v0,v1⟩:=de_3 (p:=p) (s:=s) ns k hk0 (by omega) (by omega) h z.m0 z.m1;have ed:k_3 [.lst (ns.map .int),.int 3,.int k,.dic kds,Bg p s m]=.ok (.sh (.tup [.int b,d,.int v])):=ed;have hkd:=z_2 hd;obtain⟨B1,B2,s1,s2,ep⟩:=av_1 z h hd v0 v1;have w0:=Int.emod_nonneg (v + 1 + k) (show m≠0 by omega);have w1:=Int.emod_lt_of_pos (v + 1 + k) hm;obtain⟨C1,C2,_,_,ep2⟩:=av_1 z2 h2 hd w0 w1;have em:Cz kds (Bf d)=true->e_0 (Ah p s m T kds) [d]=.ok .non (Ah p s m T (Ei kds (Bf d))):=ct_0 hd;obtain⟨xk,hxk,exk⟩:=cs_2 k;have rt:∀T' ae ks',Szs p s m T'->KOk ae ks'->Told p s m T' ae->i_6 [Bi p s m T' ae,.dic ae,Bg p s m,xk]=.ok (.sh (.bl true)):=λT' ae ks' a b c=>av_4 a b c hxk;have ld:=λT' ae=>z_3 (p:=p) (s:=s) (m:=m) (T:=T') (kds:=ae);have ix2:Be (Bg p s m) (.int 2)=.ok (.sh (.int m)):=rfl;generalize hnD:D.lst (ns.map .int)=nD at *
 generalize hsz:Bg p s m=sz at *
 have q1:bn_4 (ba_3 [6,7,8]) (r_2 [4] (Bj 5 k_3 (Ab (Aa 0) (Ab (eC (.int 3)) (Ab (Aa 5) (Ab (Aa 4) (Ab (Aa 1) Ac))))))) (Cf nD sz (Ah p s m T kds) (Ah p s m T2 aa) kds k a6 a7 a8)=.nx (Cf nD sz (Ah p s m T kds) (Ah p s m T2 aa) kds k (.sh (.int b)) (.sh d) (.sh (.int v))):=by
  have g1:Bj 5 k_3 (Ab (Aa 0) (Ab (eC (.int 3)) (Ab (Aa 5) (Ab (Aa 4) (Ab (Aa 1) Ac))))) [some nD,some sz,none,none,some (.dic kds),some (.int k),a6.pub,a7.pub,a8.pub]=.ok (.sh (.tup [.int b,d,.int v])):=by
   simp_arith [Ao,ed]
  have pd:y_0 (.sh (.tup [.int b,d,.int v]))=true:=by
   show Fs (.tup [.int b,d,.int v])=true;simp only [Fs,Fc,aj_8 hd,Bool.and_self]
  unfold bn_4 r_2;rw [do_1,if_pos rfl,show Ds [4] (Cf nD sz (Ah p s m T kds) (Ah p s m T2 aa) kds k a6 a7 a8)= [some nD,some sz,none,none,some (.dic kds),some (.int k),a6.pub,a7.pub,a8.pub] from rfl,g1];simp only [pd,if_true];rfl
 have ht:∀g1 g2:FS,Bu [4,6,7] (Cp (Ak (Ae Ec (Aa 6) (eC (.int 1)))) (Ak (Ae (Eg false) (Aa 7) (Aa 4)))) g1 g2 (Cf nD sz (Ah p s m T kds) (Ah p s m T2 aa) kds k (.sh (.int b)) (.sh d) (.sh (.int v)))=if b=1/\Cz kds (Bf d)=true then g1 (Cf nD sz (Ah p s m T kds) (Ah p s m T2 aa) kds k (.sh (.int b)) (.sh d) (.sh (.int v))) else g2 (Cf nD sz (Ah p s m T kds) (Ah p s m T2 aa) kds k (.sh (.int b)) (.sh d) (.sh (.int v))):=λg1 g2=>by
  rcases hb with rfl|rfl
  ·have:¬(0:Int)=1:=by decide
   simp_arith [Ao,Sl.any,j_0,this,false_and]
  ·cases hh:Cz kds (Bf d) with
   |true=>simp_arith [Ao,Sl.any,j_0,Eg,hkd,hh,if_true,and_self]
   |false=>simp_arith [Ao,Sl.any,j_0,Eg,hkd,hh,if_true,true_and]
 have q2:∃(T':List Int) (ae:List (Af×D)) (ks':List D),Bu [4,6,7] (Cp (Ak (Ae Ec (Aa 6) (eC (.int 1)))) (Ak (Ae (Eg false) (Aa 7) (Aa 4))))
   (Ag (l_0 (En [7] (o_3 2 1 "drop" "Living" e_0 (Bo (Aa 7) Dh)))) (bn_6 4 (Aa 7)))
   (sIfM (mOp Cn (En [7,8] (r_3 2 2 e_5 (Bo (Aa 7) (Bo (Aa 8) Dh)))) (r_4 [] (eC (.str "stuck")))) (Fh 4 [8] (Aa 7) (Aa 8)) Az) (Cf nD sz (Ah p s m T kds) (Ah p s m T2 aa) kds k (.sh (.int b)) (.sh d) (.sh (.int v)))=.nx (Cf nD sz (Ah p s m T' ae) (Ah p s m T2 aa) ae k (.sh (.int b)) (.sh d) (.sh (.int v)))/\Szs p s m T'/\KOk ae ks'/\Told p s m T' ae/\ks'.length<=ks.length + 1:=by
  rw [ht]
  by_cases hc:b=1/\Cz kds (Bf d)=true
  ·rw [if_pos hc];have g1:=ds_7 (i:=2) (p:=p) (s:=s) (m:=m) (T:=T) (kds:=kds) (n:=1) (M:=e_0) (mn:= "drop") (ga:=Bo (Aa 7) Dh) (Δ:=Cf nD sz (Ah p s m T kds) (Ah p s m T2 aa) kds k (.sh (.int b)) (.sh d) (.sh (.int v))) (ds:=[d]) rfl (by decide +kernel) rfl rfl;rw [em hc.2] at g1;have q4:l_0 (En [7] (o_3 2 1 "drop" "Living" e_0 (Bo (Aa 7) Dh))) (Cf nD sz (Ah p s m T kds) (Ah p s m T2 aa) kds k (.sh (.int b)) (.sh d) (.sh (.int v)))=.nx (Cf nD sz (Ah p s m T (Ei kds (Bf d))) (Ah p s m T2 aa) kds k (.sh (.int b)) (.sh d) (.sh (.int v))):=by
    unfold l_0 En;rw [show gsome [7] (Cf nD sz (Ah p s m T kds) (Ah p s m T2 aa) kds k (.sh (.int b)) (.sh d) (.sh (.int v)))=Cf nD sz (Ah p s m T kds) (Ah p s m T2 aa) kds k (.sh (.int b)) (.sh d) (.sh (.int v)) from rfl,g1];rfl
   have q5:bn_6 4 (Aa 7) (Cf nD sz (Ah p s m T (Ei kds (Bf d))) (Ah p s m T2 aa) kds k (.sh (.int b)) (.sh d) (.sh (.int v)))=.nx (Cf nD sz (Ah p s m T (Ei kds (Bf d))) (Ah p s m T2 aa) (Ei kds (Bf d)) k (.sh (.int b)) (.sh d) (.sh (.int v))):=by
    show(match Ee d with
     |some k'=>if(Bh kds k').isSome=true then Fl.nx (Cf nD sz (Ah p s m T (Ei kds (Bf d))) (Ah p s m T2 aa) (Ei kds k') k (.sh (.int b)) (.sh d) (.sh (.int v))) else .no
     |none=> .no)=_
    rw [hkd];have:=hc.2;unfold Cz at this;simp only [this,if_true]
   exact⟨T,_,_,(Bk q4).trans q5,z,h.drop,ci_4 t,Nat.le_trans (List.length_filter_le _ _) (Nat.le_succ _)⟩
  ·rw [if_neg hc];have g1:=cu_2 (i:=2) (p:=p) (s:=s) (m:=m) (T:=T) (kds:=kds) (n:=2) (M:=e_5) (ga:=Bo (Aa 7) (Bo (Aa 8) Dh)) (Δ:=Cf nD sz (Ah p s m T kds) (Ah p s m T2 aa) kds k (.sh (.int b)) (.sh d) (.sh (.int v))) (ds:=[d,.int v]) rfl rfl rfl;rw [ep] at g1;have g2:∀(x:D) (t':Tn) (y:Bool),putS (Ey p s m v T kds d B1 B2)=.ok x t'->Cn x (.str "stuck")=.ok (.sh (.bl y))->sIfM (mOp Cn (En [7,8] (r_3 2 2 e_5 (Bo (Aa 7) (Bo (Aa 8) Dh)))) (r_4 [] (eC (.str "stuck")))) (Fh 4 [8] (Aa 7) (Aa 8)) Az (Cf nD sz (Ah p s m T kds) (Ah p s m T2 aa) kds k (.sh (.int b)) (.sh d) (.sh (.int v)))=if y=true then Fh 4 [8] (Aa 7) (Aa 8) (Cf nD sz t' (Ah p s m T2 aa) kds k (.sh (.int b)) (.sh d) (.sh (.int v))) else .nx (Cf nD sz t' (Ah p s m T2 aa) kds k (.sh (.int b)) (.sh d) (.sh (.int v))):=λx t' y e1 e2=>by
    rw [e1] at g1;have g3:En [7,8] (r_3 2 2 e_5 (Bo (Aa 7) (Bo (Aa 8) Dh))) (Cf nD sz (Ah p s m T kds) (Ah p s m T2 aa) kds k (.sh (.int b)) (.sh d) (.sh (.int v)))=.ok x (Cf nD sz t' (Ah p s m T2 aa) kds k (.sh (.int b)) (.sh d) (.sh (.int v))):=g1;have g4:r_4 [] (eC (.str "stuck")) (Cf nD sz t' (Ah p s m T2 aa) kds k (.sh (.int b)) (.sh d) (.sh (.int v)))=.ok (.str "stuck") (Cf nD sz t' (Ah p s m T2 aa) kds k (.sh (.int b)) (.sh d) (.sh (.int v))):=rfl;unfold sIfM mOp;simp only [g3,g4,e2,W.d_sh];rfl
   rcases cu_1 z h hd v0 v1 t s1 s2 with⟨c',T',tl,tt,e⟩|e
   ·have ne:Cn (.int c') (.str "stuck")=.ok (.sh (.bl true)):=by
     show(if eqC (.int c') (.str "stuck")=true then R.ok (W.sh (.bl (!Db (.int c') (.str "stuck")))) else .no)=_;have h1:PyData.canLay0 (Dl (.str "stuck"))=true:=by decide +kernel
     have h2:PyData.canLay0 (Dl (.int c'))=true:=rfl;have h3:PyData.depth (Dl (.int c'))=0:=rfl;rw [if_pos (by unfold eqC;rw [h1,h2,h3];rfl)];rfl
    have g3:=g2 (.int c') _ true (by rw [e];rfl) ne;rw [if_pos rfl] at g3;have q5:Fh 4 [8] (Aa 7) (Aa 8) (Cf nD sz (Ah p s m T' (Cr kds (Bf d) (.int v))) (Ah p s m T2 aa) kds k (.sh (.int b)) (.sh d) (.sh (.int v)))=.nx (Cf nD sz (Ah p s m T' (Cr kds (Bf d) (.int v))) (Ah p s m T2 aa) (Cr kds (Bf d) (.int v)) k (.sh (.int b)) (.sh d) (.sh (.int v))):=by
     show(match Ee d with
      |some k'=>if kds.length < 16777216 then Fl.nx (Cf nD sz (Ah p s m T' (Cr kds (Bf d) (.int v))) (Ah p s m T2 aa) (Cr kds k' (.int v)) k (.sh (.int b)) (.sh d) (.sh (.int v))) else .no
      |none=> .no)=_
     rw [hkd];have:kds.length < 16777216:=by rw [h.length];omega
     simp only [this,if_true]
    refine⟨T',_,_,g3.trans q5,⟨z.p0,z.p1,z.s0,z.s1,z.m0,z.m1,by rw [tl];exact z.tl⟩,h.put hd hl,tt, ?_⟩
    split
    ·omega
    ·rw [List.length_append];simp only [List.length_cons,List.length_nil];omega
   ·have ne:Cn (.str "stuck") (.str "stuck")=.ok (.sh (.bl false)):=by rw [bz_4];simp
    have g3:=g2 (.str "stuck") _ false (by rw [e];rfl) ne;rw [if_neg Bool.false_ne_true] at g3;exact⟨T,kds,ks,g3,z,h,t,Nat.le_succ _⟩
 obtain⟨T',ae,ks',q2,z',h',t',l'⟩:=q2;have q3:∃(T2':List Int) (ai:List (Af×D)) (ax:List D),l_0 (En [1,5,7,8] (r_3 3 2 e_5 (Bo (Aa 7) (Bo (Ae Bt (Ae Bp (Ae Bp (Aa 8) (eC (.int 1))) (Aa 5)) (Ae Be (Aa 1) (eC (.int 2)))) Dh)))) (Cf nD sz (Ah p s m T' ae) (Ah p s m T2 aa) ae k (.sh (.int b)) (.sh d) (.sh (.int v)))=.nx (Cf nD sz (Ah p s m T' ae) (Ah p s m T2' ai) ae k (.sh (.int b)) (.sh d) (.sh (.int v)))/\Szs p s m T2'/\KOk ai ax/\ax.length<=ks2.length + 1:=by
  have ev:Ae Bt (Ae Bp (Ae Bp (Aa 8) (eC (.int 1))) (Aa 5)) (Ae Be (Aa 1) (eC (.int 2))) (As (Cf nD sz (Ah p s m T' ae) (Ah p s m T2 aa) ae k (.sh (.int b)) (.sh d) (.sh (.int v))))=.ok (.sh (.int ((v + 1 + k) % m))):=by
   simp_arith [Ao,Sl.pub,j_7,ix2,Cs hm]
  have hg:Bo (Aa 7) (Bo (Ae Bt (Ae Bp (Ae Bp (Aa 8) (eC (.int 1))) (Aa 5)) (Ae Be (Aa 1) (eC (.int 2)))) Dh) (Cf nD sz (Ah p s m T' ae) (Ah p s m T2 aa) ae k (.sh (.int b)) (.sh d) (.sh (.int v)))=.ok [d,.int ((v + 1 + k) % m)]:=by
   unfold Bo;rw [ev];rfl
  have g1:=cu_2 (i:=3) (p:=p) (s:=s) (m:=m) (T:=T2) (kds:=aa) (n:=2) (M:=e_5) (Δ:=Cf nD sz (Ah p s m T' ae) (Ah p s m T2 aa) ae k (.sh (.int b)) (.sh d) (.sh (.int v))) rfl hg rfl;rw [ep2] at g1;have g2:∀(x:D) (t':Tn),putS (Ey p s m ((v + 1 + k) % m) T2 aa d C1 C2)=.ok x t'->l_0 (En [1,5,7,8] (r_3 3 2 e_5 (Bo (Aa 7) (Bo (Ae Bt (Ae Bp (Ae Bp (Aa 8) (eC (.int 1))) (Aa 5)) (Ae Be (Aa 1) (eC (.int 2)))) Dh)))) (Cf nD sz (Ah p s m T' ae) (Ah p s m T2 aa) ae k (.sh (.int b)) (.sh d) (.sh (.int v)))=.nx (Cf nD sz (Ah p s m T' ae) t' ae k (.sh (.int b)) (.sh d) (.sh (.int v))):=λx t' e1=>by
   rw [e1] at g1;unfold l_0 En;rw [show gsome [1,5,7,8] (Cf nD sz (Ah p s m T' ae) (Ah p s m T2 aa) ae k (.sh (.int b)) (.sh d) (.sh (.int v)))=Cf nD sz (Ah p s m T' ae) (Ah p s m T2 aa) ae k (.sh (.int b)) (.sh d) (.sh (.int v)) from rfl,g1];rfl
  rcases cc_4 (p:=p) (s:=s) (m:=m) (T:=T2) (kds:=aa) (d:=d) (v:=(v + 1 + k) % m) C1 C2 with⟨c',T2',tl,e⟩|e
  ·refine⟨T2',_,_,g2 _ _ (by rw [e];rfl),⟨z2.p0,z2.p1,z2.s0,z2.s1,z2.m0,z2.m1,by rw [tl];exact z2.tl⟩,h2.put hd hl2, ?_⟩
   split
   ·omega
   ·rw [List.length_append];simp only [List.length_cons,List.length_nil];omega
  ·exact⟨T2,aa,ks2,g2 _ _ (by rw [e];rfl),z2,h2,Nat.le_succ _⟩
 obtain⟨T2',ai,ax,q3,z2',h2',l2'⟩:=q3;have q4:Bu [1,2,4,5] (Cp (Ak (Ae Ec (Ae Bt (Aa 5) (eC (.int 3))) (eC (.int 0)))) (Bm (Ax (Bj 4 i_6 (Ab (Aa 2) (Ab (Aa 4) (Ab (Aa 1) (Ab (Bj 1 i_3 (Ab (Aa 5) Ac)) Ac)))))))) (At [] (eC (.bl false))) Az (Cf nD sz (Ah p s m T' ae) (Ah p s m T2' ai) ae k (.sh (.int b)) (.sh d) (.sh (.int v)))=.nx (Cf nD sz (Ah p s m T' ae) (Ah p s m T2' ai) ae k (.sh (.int b)) (.sh d) (.sh (.int v))):=by
  have e:=rt T' ae ks' z' h' t'
  by_cases h3:k % 3=0
  ·simp_arith [Ao,Sl.any,Cs (show(0:Int) < 3 by decide),j_0,h3,exk,ld,e]
  ·simp_arith [Ao,Sl.any,Cs (show(0:Int) < 3 by decide),j_0,h3]
 refine⟨T',T2',ae,ai,ks',ax,.sh (.int b),.sh d,.sh (.int v), ?_,z',h',t',z2',h2',l',l2'⟩;unfold ap_1;rw [Bk q1,Bk q2,Bk q3,q4]
end
theorem cu_4{n k:Nat}{d:D}(e:(p_5 0 n)[k]? =some d):d=.int (k:Int)/\k < n:=by
 unfold p_5 at e;rw [List.getElem?_map] at e;obtain⟨j,hj,rfl⟩:=Option.map_eq_some_iff.mp e;obtain⟨hl,ej⟩:=List.getElem?_eq_some_iff.mp hj;rw [List.getElem_range] at ej;rw [List.length_range] at hl;subst ej;exact⟨by rw [Int.zero_add],hl⟩
theorem de_6(ns:List Int)(hn:ns.length<=63):∃z:Int,n_5 [.lst (ns.map .int),.int 3,.int 60]=.ok (.sh (.int z))/\0<=z/\z<=60:=by
 have ec:=ap_2 ns 2 (by decide) (by decide);refine⟨min 60 (max (max 0 ((ns.length:Int) - 3)) (am_0 ns 2 % 61)), ?_,by omega,by omega⟩
 simp_arith [n_5,at_5,Ao,s_7,List.length_map,ac_8,j_7,co_6,dl_7,Cs (show(0:Int) < 61 by decide),ec,show(3:Int) - 1=2 from rfl,show(60:Int) + 1=61 from rfl]
theorem ds_8:Bv (.int 7):=.inl ⟨7,rfl,by decide,by decide⟩
theorem do_2:Bv (.str "stranger"):=.inr ⟨("stranger" :Str).cps.toList,by rw [dn_6],by decide +kernel,by decide +kernel⟩
theorem cu_5(ns:List Int)(hn:ns.length<=63):∃v,dg_1 [.lst (ns.map .int)]=.ok v/\v.d=.bl true:=by
 obtain⟨p,s,m,es,p0,p1,s0,s1,m0,m1⟩:=cs_1 ns;have ei:=dd_8 (s:=s) (m:=m) (show 0 < p by omega) p1;obtain⟨w,ew,hw0,hw⟩:=de_6 ns hn;have z0:Szs p s m (List.replicate (2 * p).toNat 0):=⟨by omega,p1,s0,by omega,m0,m1,by rw [List.length_replicate];omega⟩;have k0:KOk [] []:=⟨λ_ h=>(List.not_mem_nil h).elim,List.nodup_nil,rfl,λ_ h=>(List.not_mem_nil h).elim,by decide⟩;have t0:Told p s m (List.replicate (2 * p).toNat 0) []:=⟨λt ht=>by rw [List.eq_of_mem_replicate ht];omega,λd n _ e=>by cases e⟩
 let I:Nat->SE->Prop:=λi Δ=>∃(T T2:List Int) (kds aa:List (Af×D)) (ks ks2:List D) (a5 a6 a7 a8:Sl),Δ= [.sh (.lst (ns.map .int)),.sh (Bg p s m),.tr (Ah p s m T kds),.tr (Ah p s m T2 aa),.ow (.dic kds),a5,a6,a7,a8]/\Szs p s m T/\KOk kds ks/\Told p s m T kds/\Szs p s m T2/\KOk aa ks2/\ks.length<=i/\ks2.length<=i
 obtain⟨n,hn60,en⟩:∃n:Nat,n<=60/\w.toNat=n:=⟨w.toNat,by omega,rfl⟩;obtain⟨Δ',e,T,T2,kds,aa,ks,ks2,a5,a6,a7,a8,rfl,z,h,t,_⟩:=q_0 (gV 5) ap_1 I (ds:=p_5 0 n) (Δ:=[.sh (.lst (ns.map .int)),.sh (Bg p s m),.tr (Ah p s m (List.replicate (2 * p).toNat 0) []),.tr (Ah p s m (List.replicate (2 * p).toNat 0) []),.ow (.dic []),.no,.no,.no,.no])
  ⟨_,_,[],[],[],[],.no,.no,.no,.no,rfl,z0,k0,t0,z0,k0,Nat.le_refl _,Nat.le_refl _⟩ (λi d Δ hd ⟨T,T2,kds,aa,ks,ks2,a5,a6,a7,a8,e,z,h,t,z2,h2,hl,hl2⟩=>by
   subst e;obtain⟨rfl,hi⟩:=cu_4 hd;obtain⟨T',T2',ae,ai,ks',ax,b6,b7,b8,e,z',h',t',z2',h2',l',l2'⟩:=cu_3 (k:=(i:Int)) (a6:=a6) (a7:=a7) (a8:=a8) ns hn (by omega) (by omega) z h t z2 h2 (by omega) (by omega);exact⟨_,rfl,_,.inl e,T',T2',ae,ai,ks',ax,_,b6,b7,b8,rfl,z',h',t',z2',h2',by omega,by omega⟩)
 have e1:bg_4 (Bd 9 [.lst (ns.map .int)])=.nx [.sh (.lst (ns.map .int)),.sh (Bg p s m),.no,.no,.no,.no,.no,.no,.no]:=by
  simp_arith [bg_4,Ao,es]
 have i0:Be (Bg p s m) (.int 0)=.ok (.sh (.int p)):=rfl;have i1:Be (Bg p s m) (.int 1)=.ok (.sh (.int s)):=rfl;have i2:Be (Bg p s m) (.int 2)=.ok (.sh (.int m)):=rfl;have e2:bg_5 [.sh (.lst (ns.map .int)),.sh (Bg p s m),.no,.no,.no,.no,.no,.no,.no]=.nx [.sh (.lst (ns.map .int)),.sh (Bg p s m),.tr (Ah p s m (List.replicate (2 * p).toNat 0) []),.no,.no,.no,.no,.no,.no]:=by
  simp_arith [bg_5,Ao,bn_3,i0,i1,i2,ei]
  rfl
 have e3:bg_6 [.sh (.lst (ns.map .int)),.sh (Bg p s m),.tr (Ah p s m (List.replicate (2 * p).toNat 0) []),.no,.no,.no,.no,.no,.no]=.nx [.sh (.lst (ns.map .int)),.sh (Bg p s m),.tr (Ah p s m (List.replicate (2 * p).toNat 0) []),.tr (Ah p s m (List.replicate (2 * p).toNat 0) []),.no,.no,.no,.no,.no]:=by
  simp_arith [bg_6,Ao,bn_3,i0,i1,i2,ei,Sl.pub]
  rfl
 have e4:cb_2 [.sh (.lst (ns.map .int)),.sh (Bg p s m),.tr (Ah p s m (List.replicate (2 * p).toNat 0) []),.tr (Ah p s m (List.replicate (2 * p).toNat 0) []),.no,.no,.no,.no,.no]=.nx [.sh (.lst (ns.map .int)),.sh (Bg p s m),.tr (Ah p s m (List.replicate (2 * p).toNat 0) []),.tr (Ah p s m (List.replicate (2 * p).toNat 0) []),.ow (.dic []),.no,.no,.no,.no]:=rfl;have ld:=λT' ae=>z_3 (p:=p) (s:=s) (m:=m) (T:=T') (kds:=ae);have e5:bg_7 [.sh (.lst (ns.map .int)),.sh (Bg p s m),.tr (Ah p s m (List.replicate (2 * p).toNat 0) []),.tr (Ah p s m (List.replicate (2 * p).toNat 0) []),.ow (.dic []),.no,.no,.no,.no]=.nx [.sh (.lst (ns.map .int)),.sh (Bg p s m),.tr (Ah p s m (List.replicate (2 * p).toNat 0) []),.tr (Ah p s m (List.replicate (2 * p).toNat 0) []),.ow (.dic []),.no,.no,.no,.no]:=by
  have er:=av_4 z0 k0 t0 ds_8
  simp_arith [bg_7,Ao,Sl.any,ld,er]
 have e6:bg_8 [.sh (.lst (ns.map .int)),.sh (Bg p s m),.tr (Ah p s m (List.replicate (2 * p).toNat 0) []),.tr (Ah p s m (List.replicate (2 * p).toNat 0) []),.ow (.dic []),.no,.no,.no,.no]=.nx [.sh (.lst (ns.map .int)),.sh (Bg p s m),.tr (Ah p s m T kds),.tr (Ah p s m T2 aa),.ow (.dic kds),a5,a6,a7,a8]:=by
  have hi:Ew rng1 (Ab (Bj 3 n_5 (Ab (Aa 0) (Ab (eC (.int 3)) (Ab (eC (.int 60)) Ac)))) Ac) (As [.sh (.lst (ns.map .int)),.sh (Bg p s m),.tr (Ah p s m (List.replicate (2 * p).toNat 0) []),.tr (Ah p s m (List.replicate (2 * p).toNat 0) []),.ow (.dic []),.no,.no,.no,.no])=.ok (p_5 0 n):=by
   have hr:=be_6 (j:=w) (by omega) (by omega)
   simp_arith [Ao,Sl.pub,ew,hr,en]
  unfold bg_8 Du;rw [hi];exact e
 have e7:bg_9 [.sh (.lst (ns.map .int)),.sh (Bg p s m),.tr (Ah p s m T kds),.tr (Ah p s m T2 aa),.ow (.dic kds),a5,a6,a7,a8]=.rt (.sh (.bl true)):=by
  have er:=av_4 z h t do_2;have ep:=bv_8 z h
  simp_arith [bg_9,Ao,Sl.any,ld,er,ep]
 refine⟨.sh (.bl true),s_8 ?_,rfl⟩;unfold dg_0;rw [Bk e1,Bk e2,Bk e3,Bk e4,Bk e5,Bk e6,e7]
end My
set_option maxHeartbeats 20000000
namespace My
open PySem PyProof.Rows L2 L3
def Bl(i:Nat):Stmt:=PySem.Challenge.pw_lodge_k71_values_told.main.body.getD i (.Pass ⟨0,0,0,0⟩)
def ak_1:Stmt->List Stmt
 | .ClassDef (body:=b) .. =>b
 |_=> []
def Fw(i j:Nat):Stmt:=(ak_1 (Bl i)).getD j (.Pass ⟨0,0,0,0⟩)
section
variable{P:Program}{w:World}{K:Frag}{mg:Str->Option Value}{base:Heap}{f:Addr}{fd:FuncData}
abbrev TF(c:Bool)(x:Str)(k:Nat)(ps:List Str)(F:List D->R W)(P:Program)(w:World)(K:Frag)(mg:Str->Option Value)(base:Heap):Prop:=FnD P w K mg base c x k ps F
abbrev bc_3:=TF true "_law_mix" 1 ["_law_cell_here","_law_k"] h_0
abbrev Ln:List Str:=["_law_script","_law_k"]
abbrev av_5:=TF true "_law_cell" 2 Ln h_3
abbrev am_4:=TF true "_law_sizes" 3 ["_law_script","_law_most"] o_4
abbrev am_5:=TF true "_law_whole" 1 ["_law_found"] k_0
abbrev Lz:List Str:=["_law_living","_law_sizes_here"]
abbrev t_1:=TF true "_law_table_right" 2 Lz f_1
abbrev am_6:=TF true "_law_stamp" 1 ["_law_key_here"] k_1
abbrev Lv:List Str:=["_law_number","_law_salt","_law_size"]
abbrev am_7:=TF true "_law_mixed" 1 Lv m_4
abbrev Lx:List Str:=["_law_key_here","_law_sizes_here"]
abbrev ag_6:=TF true "_law_places" 2 Lx j_3
abbrev ac_3:=TF true "is_key_text" 1 ["text"] l_3
abbrev bp_6:=TF true "is_key" 2 ["thing"] u_6
abbrev cc_7:=TF true "worth" 1 ["text"] af_8
abbrev cc_8:=TF true "stamp" 3 ["key"] k_8
abbrev cc_9:=TF true "mixed" 1 ["number","salt","size"] af_9
abbrev am_8:=TF true "places_of" 4 ["key","salt","kind","part"] o_5
abbrev av_6:=TF true "is_below" 1 ["number","limit"] h_4
abbrev L10:List Str:=["number","modulus"]
abbrev am_9:=TF true "remainder" 1 L10 m_5
abbrev bp_7:=TF true "summed" 2 ["table","places","modulus"] y_8
abbrev Lh:List Str:=["_law_living","_law_sizes_here","_law_key_here","_law_table"]
abbrev an_0:=TF true "_law_tells" 7 Lh k_2
abbrev Li:List Str:=["_law_living","_law_kept","_law_sizes_here","_law_stranger"]
abbrev an_1:=TF true "_law_right" 8 Li i_6
abbrev Lr:List Str:=["_law_script","_law_start","_law_most"]
abbrev av_7:=TF true "_law_many" 3 Lr n_5
abbrev bc_4:=TF true "_law_raw" 3 Ln n_6
abbrev av_8:=TF true "_law_text" 1 ["_law_cell_here"] r_8
abbrev bc_5:=TF true "_law_key" 2 ["_law_cell_here"] i_3
abbrev Lc:List Str:=["_law_script","_law_start","_law_k","_law_kept","_law_sizes_here"]
abbrev av_9:=TF true "_law_deed" 4 Lc k_3
abbrev ac_4:=TF true "_law_spoiled" 6 ["_law_living"] n_9
abbrev aw_0:=TF true "steps_to" 1 ["start","ways"] j_4
abbrev bc_6:=TF true "ways_at" 1 ["places_by_key"] aa_8
def bn1:= @Fun.binds1
def bn2:= @Fun.binds2
def bn3:= @Fun.binds3
def bn4:= @Fun.binds4
def bn5:= @Fun.binds5
abbrev s_1:Stmt:=(ak_1 (Bl 4)).getD 0 (.Pass ⟨0,0,0,0⟩)
abbrev Ls:List Str:=["self","at"]
theorem an_5:FnScope Ls Ls (Ci s_1):=⟨rfl,rfl,rfl,by decide +kernel,rfl,by decide +kernel,by decide +kernel⟩
theorem an_6{C f:Addr}{fd:FuncData}(F:Fun K "__init__" "NoValue.__init__" s_1 f fd)(xc:XCls K C)(hn:findIn K (.ref C) "at" =some none):FnX P w K mg base false 1 f fd Ls (ai_6 C "at"):=
 bz_7 (k:=0) F an_5 λzq A outer s H E=>bc_8 (bz_5 xc hn (Ft rfl (.inl rfl)) (Ft rfl (.inl rfl)))
abbrev w_5:Stmt:=(ak_1 (Bl 3)).getD 0 (.Pass ⟨0,0,0,0⟩)
theorem ax_6:FnScope Ls Ls (Ci w_5):=⟨rfl,rfl,rfl,by decide +kernel,rfl,by decide +kernel,by decide +kernel⟩
theorem ax_7{C f:Addr}{fd:FuncData}(F:Fun K "__init__" "NoKey.__init__" w_5 f fd)(xc:XCls K C)(hn:findIn K (.ref C) "at" =some none):FnX P w K mg base false 1 f fd Ls (ai_6 C "at"):=
 bz_7 (k:=0) F ax_6 λzq A outer s H E=>bc_8 (bz_5 xc hn (Ft rfl (.inl rfl)) (Ft rfl (.inl rfl)))
def bv_9(F:Fun K "_law_mix" "_law_mix" (Bl 30) f fd):FnX P w K mg base true 1 f fd ["_law_cell_here","_law_k"] (Ca K 2 h_0):=
 Ct (N:=["_law_cell_here","_law_k","_law_first"]) F λzr zu hu nd zv=>(Av (Br (i:=2) [0,1] (Ar Cm (Ar Dr (Ar Ck (Ad 0) Am) (Ar Ck Am (Ar Dr Am (Ad 1)))) Am) nd)
  (Bc (Ce [1,2] (Ar Cm (Ar Ck (Ar Ck (Ar Dr (Ar k_5 (Ad 2) Am) Am) (Ar Dr (Ad 2) (Ar Ck (Ar Dr (Ad 1) (Ad 1)) Am))) (Ad 1)) Am))))
variable(f7:bc_3 P w K mg base)(f9:mg "len" =none)
abbrev Lq:List Str:=["_law_script","_law_k","_law_cell_here"]
def bp_8(F:Fun K "_law_cell" "_law_cell" (Bl 31) f fd):FnX P w K mg base true 2 f fd Ln (Ca K 2 h_3):=
 Ct (N:= Lq) F λzr zu hu nd zv=>(Av (Br (i:=2) [] Am nd)
  (Av (Dj [0,1] (Dt aq_9 (Ad 1) (Fp j_9 rfl f9 PySem.boot_len (Aj (Ad 0) Au)) (Dk _))
   (Bc (Br (i:=2) [0,1] (Ar Cm (Cy (Ad 0) (Ad 1)) Am) nd))
   Dn)
  (Bc (Ce [1,2] (Cb zu zv f7 (Aj (Ad 2) (Aj (Ar Ck (Ad 1) Am) Au)))))))
variable(d9:av_5 P w K mg base)
def bh_4(F:Fun K "_law_sizes" "_law_sizes" (Bl 38) f fd):FnX P w K mg base true 3 f fd ["_law_script","_law_most"] (Ca K 2 o_4):=
 Ct (N:=["_law_script","_law_most","_law_cell_here","_law_part","_law_salt","_law_other","_law_modulus"]) F λzr zu hu nd zv=>(Av (Br (i:=2) [0] (Cb zu zv d9 (Aj (Ad 0) (Aj Am Au))) nd)
  (Av (Br (i:=3) [1,2] (Ar Ck Am (Ar Cm (Ad 2) (Ad 1))) nd)
  (Av (Br (i:=4) [2] (Cy (v_3 (Aj Am (Aj Am (Aj (Ar Cm (Ar k_5 (Ad 2) Am) Am) (Aj (Ar Ck (Ar by_0 Am Am) (Ad 2)) Au))))) (Ar Cm (Ar k_5 (Ad 2) Am) Am)) nd)
  (Av (Br (i:=5) [2] (Cb zu zv f7 (Aj (Ad 2) (Aj Am Au))) nd)
  (Av (Br (i:=6) [5] (Cy (v_3 (Aj Am (Aj Am (Aj (Ar Ck Am (Ar Cm (Ar k_5 (Ad 5) Am) Am)) (Aj Am (Aj Am (Aj Am (Aj (Ar Ck Am (Ar Cm (Ar k_5 (Ad 5) Am) Am)) (Aj Am Au))))))))) (Ar Cm (Ad 5) Am)) nd)
  (Bc (Ce [3,4,6] (p_0 (Aj (Ad 3) (Aj (Ad 4) (Aj (Ad 6) Au)))))))))))
variable(a9:mg "isinstance" =none)(y6:mg "int" =none)(l7:mg "bool" =none)(l9:KitT K "int")(g9:KitT K "bool")
def bh_5(F:Fun K "_law_whole" "_law_whole" (Bl 41) f fd):FnX P w K mg base true 1 f fd ["_law_found"] (Ca K 1 k_0):=
 Ct (N:=["_law_found"]) F λzr zu hu nd zv=>(Bc (Ce [0] (ah_3 (q_9 l9 (Ad 0) a9 y6 PyProof.Rows.boot_int) (ah_2 (cl_3 (q_9 g9 (Ad 0) a9 l7 z_9))))))
variable(f8:OFld K ["Living"] "listed")(k7:mg "list" =none)
def an_7(F:Fun K "table" "Living.table" (Fw 28 3) f fd):FnX P w K mg base true 1 f fd ["self"] (Ca K 1 b_7):=
 Ct (N:=["self"]) F λzr zu hu nd zv=>(Bc (Ce [0] (z_7 x_3 rfl k7 PyProof.Rows.boot_list (Aj (n_4 f8 (Ad 0)) Au))))
variable(j2:am_5 P w K mg base)(c6:MethT P w K mg base true 1 0 "table" [("Living",b_7)])(x0:KitT K "list")
def ad_5(F:Fun K "_law_table_right" "_law_table_right" (Bl 42) f fd):FnX P w K mg base true 2 f fd Lz (Ca K 2 f_1):=
 Ct (N:=["_law_living","_law_sizes_here","_law_table"]) F λzr zu hu nd zv=>(Av (Br (i:=2) [0] (o_1 c6 zu zv (Ad 0)) nd)
  (Av (Dj [1,2] (td_w (bi_8 (t_2 (g_5 (q_9 x0 (Ad 2) a9 k7 PyProof.Rows.boot_list))) (bd_8 (Dt (x_2 hu) (Fp j_9 rfl f9 PySem.boot_len (Aj (Ad 2) Au)) (Ar Dr Am (Cy (Ad 1) Am)) (Dk _)))))
   (Bc (Ce [] aq_4))
   Dn)
  (Bc (Ce [1,2] (ah_1 (q_7 hu) (ae_6 (N':=["_law_living","_law_sizes_here","_law_table","_law_number"]) zr (ae_4 (Ad 2)) rfl (by rfl') rfl (λC s0 H0 fp pn=>⟨(gcM (i:=3)),(bt_1 (td_w (bi_8 (t_2 (g_5 (Cb (u_2 zu) ae_3 j2 (Aj (Ad 3) Au)))) (bd_8 (t_2 (cl_2 ah_5 aq_9 Am (Ad 3) (Cy (Ad 1) Am))))))),(Ad 3)⟩)) (v_3 Au) (Dk _))))))
def bh_6(F:Fun K "_law_stamp" "_law_stamp" (Bl 32) f fd):FnX P w K mg base true 1 f fd ["_law_key_here"] (Ca K 1 k_1):=
 Ct (N:=["_law_key_here","_law_worth","_law_sign"]) F λzr zu hu nd zv=>(Av (Dj [0] (g_5 (q_9 l9 (Ad 0) a9 y6 PyProof.Rows.boot_int))
   (Bc (Ce [0] (Ar Dr Am (Ad 0))))
   Dn)
  (Av (Br (i:=1) [] Am nd)
  (Av (ai_0 [0] j_2 zr (ae_4 (Ad 0)) (ao_2 (i:=2) nd)
   (Bc (Br (i:=1) [1,2] (Ar Ck (Ar Ck (Ar Dr Am (Ad 1)) Am) (by_2 PySem.F.plainAttrs_str PySem.F.slot_str_index PySem.F.type_str_index cf_9 ah_0 (Aj (Ad 2) Au))) nd)))
  (Bc (Ce [1] (Ar Ck (Ar Dr Am (Ad 1)) Am))))))
def bh_7(F:Fun K "_law_mixed" "_law_mixed" (Bl 33) f fd):FnX P w K mg base true 1 f fd Lv (Ca K 3 m_4):=
 Ct (N:=["_law_number","_law_salt","_law_size","_law_prime","_law_factor","_law_first"]) F λzr zu hu nd zv=>(Av (Br (i:=3) [] Am nd)
  (Av (Br (i:=4) [1,3] (Ar Ck Am (Ar Cm (Ar Ck (Ar Dr Am (Ad 1)) Am) (Ar v_4 (Ad 3) Am))) nd)
  (Av (Br (i:=5) [0,1,3,4] (Ar Cm (Ar Ck (Ar Dr (Ad 4) (Ad 0)) (Ar Cm (Ar Ck (Ar Dr (Ar Dr Am (Ad 1)) (Ad 1)) (Ar Dr Am (Ad 1))) (Ad 3))) (Ad 3)) nd)
  (Bc (Ce [2,5] (Ar Cm (Ar Ck (Ad 5) (Ar k_5 (Ad 5) Am)) (Ad 2)))))))
variable(j3:am_6 P w K mg base)(j9:am_7 P w K mg base)
def ax_8(F:Fun K "_law_places" "_law_places" (Bl 34) f fd):FnX P w K mg base true 2 f fd Lx (Ca K 2 j_3):=
 Ct (N:=["_law_key_here","_law_sizes_here","_law_number","_law_part","_law_salt","_law_modulus"]) F λzr zu hu nd zv=>(Av (cn_9 [1] (Ad 1) (bz_9 zr (aa_4 (i:=3) nd (aa_4 (i:=4) nd (aa_4 (i:=5) nd cp_5)))))
  (Av (Br (i:=2) [0] (Cb zu zv j3 (Aj (Ad 0) Au)) nd)
  (Bc (Ce [2,3,4] (p_0 (Aj (Cb zu zv j9 (Aj (Ad 2) (Aj (Ar Dr Am (Ad 4)) (Aj (Ad 3) Au)))) (Aj (Ar Ck (Ad 3) (Cb zu zv j9 (Aj (Ad 2) (Aj (Ar Ck (Ar Dr Am (Ad 4)) Am) (Aj (Ad 3) Au))))) Au)))))))
variable(ad8:mg "all" =none){aa0:Tok}(m7:mg "MOST_SIGNS" =some (.int 11 aa0)){af4:Tok}(r9:mg "SIGNS" =some (.str "abcdefghijklmnopqrstuvwxyz0123456789-_ " af4))
def aw_1(F:Fun K "is_key_text" "is_key_text" (Bl 17) f fd):FnX P w K mg base true 1 f fd ["text"] (Ca K 1 l_3):=
 Ct (N:=["text"]) F λzr zu hu nd zv=>(Bc (Ce [0] (ah_3 (ah_1 ah_5 (Fp j_9 rfl f9 PySem.boot_len (Aj (Ad 0) Au)) (v_2 rfl m7) (Dk _)) (ah_2 (Fp (cf_8 zr) rfl ad8 PyProof.Rows.boot_all (Aj (ae_6 (N':=["text","sign"]) zr (ae_4 (Ad 0)) rfl (by rfl') rfl (λC s0 H0 fp pn=>⟨(gcM (i:=1)),ar_1,(ah_1 dk_3 (Ad 1) (bx_5 rfl r9) (by with_unfolding_all rfl))⟩)) Au))))))
variable(k8:ac_3 P w K mg base)(aa7:mg "str" =none)(r6:KitT K "str"){p9:Tok}(i7:mg "GREATEST_NUMBER" =some (.int 999999999999999999 p9))
def ci_8(F:Fun K "is_key" "is_key" (Bl 18) f fd):FnX P w K mg base true 2 f fd ["thing"] (Ca K 1 u_6):=
 Ct (N:=["thing"]) F λzr zu hu nd zv=>(Av (Dj [0] (g_5 (q_9 g9 (Ad 0) a9 l7 z_9))
   (Bc (Ce [] aq_4))
   Dn)
  (Av (Dj [0] (g_5 (q_9 l9 (Ad 0) a9 y6 PyProof.Rows.boot_int))
   (Bc (Ce [0] (bi_7 ah_5 ah_5 Am (Ad 0) (v_2 rfl i7))))
   Dn)
  (Bc (Ce [0] (ah_3 (q_9 r6 (Ad 0) a9 aa7 PyProof.Rows.boot_str) (ah_2 (Cb zu zv k8 (Aj (Ad 0) Au))))))))
def cu_6(F:Fun K "worth" "worth" (Bl 19) f fd):FnX P w K mg base true 1 f fd ["text"] (Ca K 1 af_8):=
 Ct (N:=["text","total","sign"]) F λzr zu hu nd zv=>(Av (Br (i:=1) [] Am nd)
  (Av (ai_0 [0] j_2 zr (ae_4 (Ad 0)) (ao_2 (i:=2) nd)
   (Bc (Br (i:=1) [1,2] (Ar Ck (Ar Ck (Ar Dr Am (Ad 1)) (by_2 PySem.F.plainAttrs_str PySem.F.slot_str_find PySem.F.type_str_find cn_0 (bx_5 rfl r9) (Aj (Ad 2) Au))) Am) nd)))
  (Bc (z_8 1))))
variable(x3:bp_6 P w K mg base)(y9:cc_7 P w K mg base){n9:Addr}(z7:XC P w K mg base "NoKey" "at" n9)
def cu_7(F:Fun K "stamp" "stamp" (Bl 20) f fd):FnX P w K mg base true 3 f fd ["key"] (Ca K 1 k_8):=
 Ct (N:=["key"]) F λzr zu hu nd zv=>(Av (Dj [0] (t_2 (g_5 (Cb zu zv x3 (Aj (Ad 0) Au))))
   (Bc (bm_0 [] z7 (RoomC.mono zu (by decide)) ao_7 Am))
   Dn)
  (Av (Dj [0] (g_5 (q_9 r6 (Ad 0) a9 aa7 PyProof.Rows.boot_str))
   (Bc (Ce [0] (Ar Ck (Ar Dr Am (Cb zu zv y9 (Aj (Ad 0) Au))) Am)))
   Dn)
  (Bc (Ce [0] (Ar Dr Am (Ad 0))))))
variable{ae9:Tok}(p6:mg "PRIME" =some (.int 2305843009213693951 ae9))
def cu_8(F:Fun K "mixed" "mixed" (Bl 21) f fd):FnX P w K mg base true 1 f fd ["number","salt","size"] (Ca K 3 af_9):=
 Ct (N:=["number","salt","size","factor","shift","first"]) F λzr zu hu nd zv=>(Av (Dj [2] (Dt (q_7 hu) (Ad 2) Am (Dk _))
   (Bc (Ce [] Am))
   Dn)
  (Av (Br (i:=3) [1] (Ar Ck Am (Ar Cm (Ar Ck (Ar Dr Am (Ad 1)) Am) (Ar v_4 (v_2 rfl p6) Am))) nd)
  (Av (Br (i:=4) [1] (Ar Cm (Ar Ck (Ar Dr (Ar Dr Am (Ad 1)) (Ad 1)) (Ar Dr Am (Ad 1))) (v_2 rfl p6)) nd)
  (Av (Br (i:=5) [0,3,4] (Ar Cm (Ar Ck (Ar Dr (Ad 3) (Ad 0)) (Ad 4)) (v_2 rfl p6)) nd)
  (Bc (Ce [2,5] (Ar Cm (Ar Ck (Ad 5) (Ar k_5 (Ad 5) Am)) (Ad 2))))))))
variable(m8:cc_8 P w K mg base)(z6:cc_9 P w K mg base)(q9:mg "tuple" =none)(m6:mg "range" =none)
def bh_8(F:Fun K "places_of" "places_of" (Bl 23) f fd):FnX P w K mg base true 4 f fd ["key","salt","kind","part"] (Ca K 4 o_5):=
 Ct (N:=["key","salt","kind","part","number"]) F λzr zu hu nd zv=>(Av (Br (i:=4) [0] (Cb zu zv m8 (Aj (Ad 0) Au)) nd)
  (Bc (Ce [1,2,3,4] (z_7 bs_5 rfl q9 PyProof.Rows.boot_tuple (Aj (ae_6 (N':=["key","salt","kind","part","number","turn"]) zr (ah_8 m6 (Aj (Ad 2) Au)) rfl (by rfl') rfl (λC s0 H0 fp pn=>⟨(gcM (i:=5)),ar_1,(Ar Ck (Ar Dr (Ad 5) (Ad 3)) (Cb (u_2 zu) ae_3 z6 (Aj (Ad 4) (Aj (Ar Ck (Ar Dr Am (Ad 1)) (Ad 5)) (Aj (Ad 3) Au)))))⟩)) Au)))))
variable(m9:am_8 P w K mg base)(l8:OFld K ["Living"] "part")(j7:OFld K ["Living"] "by_salt"){af9:Tok}(x5:mg "KIND" =some (.int 2 af9))
abbrev Lg:List Str:=["self","key"]
def ak_2(F:Fun K "places" "Living.places" (Fw 28 4) f fd):FnX P w K mg base true 5 f fd Lg (Ca K 2 b_5):=
 Ct (N:= Lg) F λzr zu hu nd zv=>(Bc (Ce [0,1] (Cb zu zv m9 (Aj (Ad 1) (Aj (n_4 j7 (Ad 0)) (Aj (v_2 rfl x5) (Aj (n_4 l8 (Ad 0)) Au)))))))
def bp_9(F:Fun K "is_below" "is_below" (Bl 8) f fd):FnX P w K mg base true 1 f fd ["number","limit"] (Ca K 2 h_4):=
 Ct (N:=["number","limit"]) F λzr zu hu nd zv=>(Bc (Ce [0,1] (ah_3 (cl_3 (q_9 g9 (Ad 0) a9 l7 z_9)) (ah_2 (bi_7 ah_5 aq_9 Am (Ad 0) (Ad 1))))))
def bh_9(F:Fun K "remainder" "remainder" (Bl 10) f fd):FnX P w K mg base true 1 f fd L10 (Ca K 2 m_5):=
 Ct (N:= L10) F λzr zu hu nd zv=>(Bc (Ce [0,1] (cl_4 (Dt (q_7 hu) (Ad 1) Am (Dk _)) Am (Ar Cm (Ad 0) (Ad 1)))))
variable(j6:av_6 P w K mg base)(i8:am_9 P w K mg base)(ae5:mg "sum" =none)
def ci_9(F:Fun K "summed" "summed" (Bl 11) f fd):FnX P w K mg base true 2 f fd ["table","places","modulus"] (Ca K 3 y_8):=
 Ct (N:=["table","places","modulus","found"]) F λzr zu hu nd zv=>(Av (cy_3 (i:=3) [0,1] (N':=["table","places","modulus","found","place"]) zr (ae_4 (Ad 1)) rfl (by rfl') rfl (λC s0 H0 fp pn=>⟨(gcM (i:=4)),(bt_1 (g_5 (Cb (u_2 zu) ae_3 j6 (Aj (Ad 4) (Aj (Fp j_9 rfl f9 PySem.boot_len (Aj (Ad 0) Au)) Au))))),(Cy (Ad 0) (Ad 4))⟩) nd)
  (Bc (Ce [2,3] (Cb zu zv i8 (Aj (Fp (cg_0 zr) rfl ae5 PyProof.Rows.boot_sum (Aj (Ad 3) Au)) (Aj (Ad 2) Au))))))
variable(x8:bp_7 P w K mg base)(b9:MethT P w K mg base true 5 1 "places" [("Living",b_5)])(d7:OFld K ["Living"] "modulus")
def an_8(F:Fun K "value" "Living.value" (Fw 28 1) f fd):FnX P w K mg base true 6 f fd Lg (Ca K 2 c_6):=
 Ct (N:= Lg) F λzr zu hu nd zv=>(Bc (Ce [0,1] (Cb zu zv x8 (Aj (n_4 f8 (Ad 0)) (Aj (v_6 b9 zu zv (Ad 0) (Aj (Ad 1) Au)) (Aj (n_4 d7 (Ad 0)) Au))))))
variable(l4:ag_6 P w K mg base)(f6:MethT P w K mg base true 6 1 "value" [("Living",c_6)])(u7:KitT K "tuple")
def bi_0(F:Fun K "_law_tells" "_law_tells" (Bl 43) f fd):FnX P w K mg base true 7 f fd Lh (Ca K 4 k_2):=
 Ct (N:=["_law_living","_law_sizes_here","_law_key_here","_law_table","_law_found","_law_value","_law_first","_law_second"]) F λzr zu hu nd zv=>(Av (cn_9 [1,2] (Cb zu zv l4 (Aj (Ad 2) (Aj (Ad 1) Au))) (cy_9 (i:=6) (j:=7) zr nd))
  (Av (Br (i:=4) [0,2] (v_6 b9 zu zv (Ad 0) (Aj (Ad 2) Au)) nd)
  (Av (Dj [4,6,7] (td_w (bi_8 (t_2 (g_5 (q_9 u7 (Ad 4) a9 q9 PyProof.Rows.boot_tuple))) (bi_8 (Dt (x_2 hu) (Ad 4) (p_0 (Aj (Ad 6) (Aj (Ad 7) Au))) (Dk _)) (bd_8 (g_5 (q_9 g9 (Cy (Ad 4) Am) a9 l7 z_9))))))
   (Bc (Ce [] bd_6))
   Dn)
  (Av (Br (i:=5) [0,2] (v_6 f6 zu zv (Ad 0) (Aj (Ad 2) Au)) nd)
  (Av (Dj [1,3,5,6,7] (td_w (bi_8 (t_2 (g_5 (Cb zu zv j2 (Aj (Ad 5) Au)))) (bd_8 (Dt (x_2 hu) (Ad 5) (Ar Cm (Ar Ck (Cy (Ad 3) (Ad 6)) (Cy (Ad 3) (Ad 7))) (Cy (Ad 1) Am)) (Dk _)))))
   (Bc (Ce [] bd_6))
   Dn)
  (Bc (z_8 5)))))))
variable(d5:OFld K ["Living"] "by_key")(n6:mg "sorted" =none)
def aw_2(F:Fun K "kept" "Living.kept" (Fw 28 2) f fd):FnX P w K mg base true 5 f fd ["self"] (Ca K 1 c_4):=
 Ct (N:=["self"]) F λzr zu hu nd zv=>(Bc (Ce [0] (ae_6 (N':= Lg) zr (ae_4 (cq_8 (cp_2 zr) (cp_0 zu) n6 m8 (n_4 d5 (Ad 0)))) rfl (by rfl') rfl (λC s0 H0 fp pn=>⟨(gcM (i:=1)),ar_1,(p_0 (Aj (Ad 1) (Aj (cz_1 hu (n_4 d5 (Ad 0)) (Ad 1)) Au)))⟩))))
variable(i6:t_1 P w K mg base)(k4:an_0 P w K mg base)(d6:MethT P w K mg base true 5 0 "kept" [("Living",c_4)])
def bi_1(F:Fun K "_law_right" "_law_right" (Bl 44) f fd):FnX P w K mg base true 8 f fd Li (Ca K 4 i_6):=
 Ct (N:=["_law_living","_law_kept","_law_sizes_here","_law_stranger","_law_table","_law_stamps","_law_key_here","_law_value"]) F λzr zu hu nd zv=>(Av (Dj [0,2] (t_2 (g_5 (Cb zu zv i6 (Aj (Ad 0) (Aj (Ad 2) Au)))))
   (Bc (Ce [] aq_4))
   Dn)
  (Av (Br (i:=4) [0] (o_1 c6 zu zv (Ad 0)) nd)
  (Av (dc_1 [1] j_2 zr (Ad 1) (be_3 (i:=6) (j:=7) zr nd)
   (Bc (Dj [0,2,4,6,7] (Dt (x_2 hu) (Cb zu zv k4 (Aj (Ad 0) (Aj (Ad 2) (Aj (Ad 6) (Aj (Ad 4) Au))))) (Ad 7) (Dk _))
   (Bc (Ce [] aq_4))
   Dn)))
  (Av (Br (i:=5) [1] (Fp (bu_6 zr) rfl n6 PyProof.Rows.boot_sorted (Aj (cr_1 (N':=["_law_living","_law_kept","_law_sizes_here","_law_stranger","_law_table","_law_stamps","?6","?7","_law_key_here","_law_value"]) zr (Ad 1) rfl (by rfl') rfl (λC s0 H0 fp pn=>⟨(dl_1 (i:=8) (j:=9) (az_6 zr) (show List.Nodup [("_law_living" :Str),("_law_kept" :Str),("_law_sizes_here" :Str),("_law_stranger" :Str),("_law_table" :Str),("_law_stamps" :Str),("?6" :Str),("?7" :Str),("_law_key_here" :Str),("_law_value" :Str)] from by decide +kernel)),ar_1,(p_0 (Aj (Cb (u_2 zu) ae_3 j3 (Aj (Ad 8) Au)) (Aj (Ad 8) (Aj (Ad 9) Au))))⟩)) Au)) nd)
  (Av (Dj [0,5] (Dt (x_2 hu) (o_1 d6 zu zv (Ad 0)) (ae_6 (N':=["_law_living","_law_kept","_law_sizes_here","_law_stranger","_law_table","_law_stamps","?6","?7","_law_number","_law_key_here","_law_value"]) zr (ae_4 (Ad 5)) rfl (by rfl') rfl (λC s0 H0 fp pn=>⟨(cn_6 (i:=8) (j:=9) (l:=10) (az_6 zr) (show List.Nodup [("_law_living" :Str),("_law_kept" :Str),("_law_sizes_here" :Str),("_law_stranger" :Str),("_law_table" :Str),("_law_stamps" :Str),("?6" :Str),("?7" :Str),("_law_number" :Str),("_law_key_here" :Str),("_law_value" :Str)] from by decide +kernel)),ar_1,(p_0 (Aj (Ad 9) (Aj (Ad 10) Au)))⟩)) (Dk _))
   (Bc (Ce [] aq_4))
   Dn)
  (Bc (Ce [0,2,3,4] (ah_3 (ah_1 cn_7 (Cb zu zv k4 (Aj (Ad 0) (Aj (Ad 2) (Aj (Ad 3) (Aj (Ad 4) Au))))) bd_6 (Dk _)) (ah_2 (ah_1 (q_7 hu) (o_1 c6 zu zv (Ad 0)) (Ad 4) (Dk _)))))))))))
variable(y8:mg "max" =none)(ae1:mg "min" =none)
def bq_0(F:Fun K "_law_many" "_law_many" (Bl 39) f fd):FnX P w K mg base true 3 f fd Lr (Ca K 3 n_5):=
 Ct (N:=["_law_script","_law_start","_law_most","_law_cells"]) F λzr zu hu nd zv=>(Av (Br (i:=3) [0,1] (Fp (ah_7 zr) rfl y8 PyProof.Rows.boot_max (Aj Am (Aj (Ar v_4 (Fp j_9 rfl f9 PySem.boot_len (Aj (Ad 0) Au)) (Ad 1)) Au))) nd)
  (Bc (Ce [0,1,2,3] (Fp (cf_3 zr) rfl ae1 PyProof.Rows.boot_min (Aj (Ad 2) (Aj (Fp (ah_7 zr) rfl y8 PyProof.Rows.boot_max (Aj (Ad 3) (Aj (Ar Cm (Cb zu zv d9 (Aj (Ad 0) (Aj (Ar v_4 (Ad 1) Am) Au))) (Ar Ck (Ad 2) Am)) Au))) Au))))))
def bw_0(F:Fun K "_law_raw" "_law_raw" (Bl 37) f fd):FnX P w K mg base true 3 f fd Ln (Ca K 2 n_6):=
 Ct (N:= Lq) F λzr zu hu nd zv=>(Av (Br (i:=2) [] Am nd)
  (Av (Dj [0,1] (Dt aq_9 (Ad 1) (Fp j_9 rfl f9 PySem.boot_len (Aj (Ad 0) Au)) (Dk _))
   (Bc (Br (i:=2) [0,1] (Cy (Ad 0) (Ad 1)) nd))
   Dn)
  (Av (Dj [0] (Dt (q_7 hu) (Ar Cm (Cb zu zv d9 (Aj (Ad 0) (Aj Am Au))) Am) Am (Dk _))
   (Bc (z_8 2))
   Dn)
  (Bc (Ce [1,2] (Cb zu zv f7 (Aj (Cb zu zv f7 (Aj (Ar Cm (Ad 2) Am) (Aj (Ar Ck (Ad 1) Am) Au))) (Aj (Ad 1) Au))))))))
def bq_1(F:Fun K "_law_text" "_law_text" (Bl 35) f fd):FnX P w K mg base true 1 f fd ["_law_cell_here"] (Ca K 1 r_8):=
 Ct (N:=["_law_cell_here","_law_found","_law_rest","_law_k"]) F λzr zu hu nd zv=>(Av (Br (i:=1) [] ah_0 nd)
  (Av (Br (i:=2) [0] (Ar k_5 (Ad 0) Am) nd)
  (Av (ai_0 [0] j_2 zr (ah_8 m6 (Aj (Ar Cm (Ad 0) Am) Au)) (ao_2 (i:=3) nd)
   (Av (Br (i:=1) [1,2] (Ar Ck (Ad 1) (Cy ah_0 (Ar Cm (Ad 2) Am))) nd)
  (Bc (Br (i:=2) [2] (Ar k_5 (Ad 2) Am) nd))))
  (Bc (z_8 1)))))
variable(p5:av_8 P w K mg base)
def bw_1(F:Fun K "_law_key" "_law_key" (Bl 36) f fd):FnX P w K mg base true 2 f fd ["_law_cell_here"] (Ca K 1 i_3):=
 Ct (N:=["_law_cell_here","_law_rest"]) F λzr zu hu nd zv=>(Av (Br (i:=1) [0] (Ar k_5 (Ad 0) Am) nd)
  (Av (Dj [0] (Dt (q_7 hu) (Ar Cm (Ad 0) Am) Am (Dk _))
   (Bc (Ce [1] (Ar Cm (Ad 1) (Ar by_0 Am Am))))
   Dn)
  (Av (Dj [0] (Dt (q_7 hu) (Ar Cm (Ad 0) Am) Am (Dk _))
   (Bc (Ce [1] (Cb zu zv p5 (Aj (Ad 1) Au))))
   Dn)
  (Bc (Ce [0,1] (Ar Cm (Ad 1) (Cy (v_3 (Aj Am (Aj Am Au))) (Ar v_4 (Ar Cm (Ad 0) Am) Am))))))))
variable(u1:bc_4 P w K mg base)(l0:bc_5 P w K mg base)
def bq_2(F:Fun K "_law_deed" "_law_deed" (Bl 40) f fd):FnX P w K mg base true 4 f fd Lc (Ca K 5 k_3):=
 Ct (N:=["_law_script","_law_start","_law_k","_law_kept","_law_sizes_here","_law_cell_here","_law_way","_law_rest","_law_value","_law_key_here"]) F λzr zu hu nd zv=>(Av (Br (i:=5) [0,1,2] (Cb zu zv u1 (Aj (Ad 0) (Aj (Ar Ck (Ad 1) (Ar Cm (Ad 2) (Fp (ah_7 zr) rfl y8 PyProof.Rows.boot_max (Aj Am (Aj (Ar v_4 (Fp j_9 rfl f9 PySem.boot_len (Aj (Ad 0) Au)) (Ad 1)) Au))))) Au))) nd)
  (Av (Dj [0] (Dt (q_7 hu) (Ar Cm (Cb zu zv d9 (Aj (Ad 0) (Aj Am Au))) Am) Am (Dk _))
   (Bc (Br (i:=5) [2,5] (Cb zu zv f7 (Aj (Ar Cm (Ad 5) Am) (Aj (Ad 2) Au))) nd))
   Dn)
  (Av (Br (i:=6) [5] (Ar Cm (Ad 5) Am) nd)
  (Av (Br (i:=7) [5] (Ar k_5 (Ad 5) Am) nd)
  (Av (Br (i:=8) [4,7] (Ar Cm (Ad 7) (Cy (Ad 4) Am)) nd)
  (Av (Br (i:=9) [4,7] (Cb zu zv l0 (Aj (Ar k_5 (Ad 7) (Cy (Ad 4) Am)) Au)) nd)
  (Av (Dj [3,6] (td_w (bs_1 (Dt cm_0 (Ad 6) Am (Dk _)) (bd_7 (Dt (cq_4 hu) (Ad 3) ao_3 (Dk _)))))
   (Bc (Br (i:=9) [3,4,7] (Cy (cq_5 zr k7 (Ad 3)) (Ar Cm (Ar k_5 (Ad 7) (Cy (Ad 4) Am)) (Fp u_3 rfl f9 PySem.boot_len (Aj (Ad 3) Au)))) nd))
   Dn)
  (Bc (Ce [6,8,9] (p_0 (Aj (Cy (v_3 (Aj Am (Aj Am (Aj Am (Aj Am (Aj Am (Aj Am (Aj Am (Aj Am Au))))))))) (Ad 6)) (Aj (Ad 9) (Aj (Ad 8) Au)))))))))))))
def aw_3(F:Fun K "_law_spoiled" "_law_spoiled" (Bl 46) f fd):FnX P w K mg base true 6 f fd ["_law_living"] (Ca K 1 n_9):=
 Ct (N:=["_law_living","_law_told","_law_some","_law_kept"]) F λzr zu hu nd zv=>(Av (Br (i:=1) [0] (o_1 c6 zu zv (Ad 0)) nd)
  (Av (Br (i:=2) [0] (o_1 d6 zu zv (Ad 0)) nd)
  (Av (aa_5 (i:=3) (dc_7 (ca_9 (i:=1) (z_7 x_3 rfl k7 PyProof.Rows.boot_list (Aj (Ad 1) Au))) (ca_9 (i:=2) (z_7 x_3 rfl k7 PyProof.Rows.boot_list (Aj (Ad 2) Au)))) nd)
  (Av (cr_4 (j:=1))
  (Av (bt_0 (i:=2) (p_0 (Aj Am (Aj Am Au))))
  (Bc (Ce [0,3] (ah_1 (q_7 hu) (v_3 (Aj (o_1 c6 zu zv (Ad 0)) (Aj (o_1 d6 zu zv (Ad 0)) Au))) (Ad 3) (Dk _)))))))))
def bq_3(F:Fun K "steps_to" "steps_to" (Bl 27) f fd):FnX P w K mg base true 1 f fd ["start","ways"] (Ca K 2 j_4):=
 Ct (N:=["start","ways","steps","waiting","place","key","other"]) F λzr zu hu nd zv=>(Av (Br (i:=2) [0] (db_7 (Ad 0) bd_6) nd)
  (Av (Br (i:=3) [0] (v_3 (Aj (Ad 0) Au)) nd)
  (Av (cm_4 [3] 3000 j_2 (Dt cm_0 (Fp j_9 rfl f9 PySem.boot_len (Aj (Ad 3) Au)) Am (Dk _))
   (Av (db_8 (i:=4) (j:=3) Am nd)
  (Bc (ai_0 [1,4] j_2 zr (ae_4 (cz_2 hu (Ad 1) (Ad 4) (v_3 Au))) (be_3 (i:=5) (j:=6) zr nd)
   (Bc (Dj [2,6] (Dt (az_9 hu) (Ad 6) (Ad 2) (by with_unfolding_all rfl))
   (Av (by_9 (i:=2) [4,5] hu (p_0 (Aj (Ad 5) (Aj (Ad 4) Au))) (Ad 6))
  (Bc (bt_0 (i:=3) (Ad 6))))
   Dn))))))
  (Bc (z_8 2)))))
variable(n8:mg "enumerate" =none)
def an_9(F:Fun K "shift" "Living.shift" (Fw 28 9) f fd):FnX P w K mg base true 2 f fd ["self","tied","in_first_part","in_second_part"] (spR K 3 d_1):=
 bn_7 (n:=3) (N:=["self","tied","in_first_part","in_second_part","numbers","place","number","more"]) F (by decide) (by decide) λzr zu hu nd zv=>(Av (Br (i:=4) [] (v_3 Au) nd)
  (Av (db_3 j_2 zr n8 (af_2 [0] (n_4 f8 (Ad 0))) (be_3 (i:=5) (j:=6) zr nd)
   (Av (aa_5 (i:=7) (af_2 [0] (cl_4 (Dt aq_9 (Ad 5) (n_4 l8 (Ad 0)) (Dk _)) (Ad 2) (Ad 3))) nd)
  (Bc (bt_0 (i:=4) (cl_4 (Dt (bt_6 hu) (Ad 5) (Ad 1) (by with_unfolding_all rfl)) (Cb zu zv i8 (Aj (Ar Ck (Ad 6) (Ad 7)) (Aj (n_4 d7 (Ad 0)) Au))) (Ad 6))))))
  (Bc (da_9 (i:=0) [4] f8 (Ad 4)))))
variable(l5:aw_0 P w K mg base)(g8:MethR P w K mg base true 2 3 "shift" "Living" d_1){g7:Addr}(y3:XC0 K mg "Stuck" g7)
def aw_4(F:Fun K "mend" "Living.mend" (Fw 28 8) f fd):FnX P w K mg base true 3 f fd ["self","places","lacking","ways"] (spR K 3 g_3):=
 bn_7 (n:=3) (N:=["self","places","lacking","ways","first","second"]) F (by decide) (by decide) λzr zu hu nd zv=>(Av (Br (i:=4) [1,3] (Cb zu zv l5 (Aj (Cy (Ad 1) Am) (Aj (Ad 3) Au))) nd)
  (Av (Br (i:=5) [1,3] (Cb zu zv l5 (Aj (Cy (Ad 1) Am) (Aj (Ad 3) Au))) nd)
  (Av (Dj [1,4] (Dt (bt_6 hu) (Cy (Ad 1) Am) (Ad 4) (by with_unfolding_all rfl))
   (Bc (ba_1 y3 (RoomC.mono zu (by decide)) ao_7))
   Dn)
  (Av (Dj [4,5] (Dt ah_5 (Fp u_3 rfl f9 PySem.boot_len (Aj (Ad 4) Au)) (Fp u_3 rfl f9 PySem.boot_len (Aj (Ad 5) Au)) (Dk _))
   (Av (af_3 (r_5 [2,4] (af_4 (i:=0) g8 zu zv (g_6 (Ad 4) (g_6 (Ad 2) (g_6 (cn_4 (Ad 2)) ad_0))))))
  (Bc (ao_9 (af_5 [4] (Fp u_3 rfl f9 PySem.boot_len (Aj (Ad 4) Au))))))
   Dn)
  (Av (af_3 (r_5 [2,5] (af_4 (i:=0) g8 zu zv (g_6 (Ad 5) (g_6 (cn_4 (Ad 2)) (g_6 (Ad 2) ad_0))))))
  (Bc (ao_9 (af_5 [5] (Fp u_3 rfl f9 PySem.boot_len (Aj (Ad 5) Au))))))))))
def bw_2(F:Fun K "ways_at" "ways_at" (Bl 26) f fd):FnX P w K mg base true 1 f fd ["places_by_key"] (Ca K 1 aa_8):=
 Ct (N:=["places_by_key","ways","key","places"]) F λzr zu hu nd zv=>(Av (Br (i:=1) [] ao_3 nd)
  (Av (ai_0 [0] j_2 zr (ae_4 (Ad 0)) (be_3 (i:=2) (j:=3) zr nd)
   (Av (cq_2 (i:=1) (Cy (Ad 3) Am) (p_0 (Aj (Ad 2) (Aj (Cy (Ad 3) Am) Au))))
  (Bc (cq_2 (i:=1) (Cy (Ad 3) Am) (p_0 (Aj (Ad 2) (Aj (Cy (Ad 3) Am) Au)))))))
  (Bc (z_8 1))))
variable(v5:bc_6 P w K mg base)
def w_6(F:Fun K "ways_without" "Living.ways_without" (Fw 28 5) f fd):FnX P w K mg base true 6 f fd Lg (Ca K 2 b_1):=
 Ct (N:= Lg) F λzr zu hu nd zv=>(Bc (Ce [0,1] (Cb zu zv v5 (Aj (cp_4 (N':=["self","key","other"]) zr (n_4 d5 (Ad 0)) rfl (by rfl') rfl (λC s0 H0 fp pn=>⟨(gcM (i:=2)),(bt_1 (Dt (x_2 hu) (Ad 2) (Ad 1) (Dk _))),(p_0 (Aj (Ad 2) (Aj (v_6 b9 (u_2 zu) ae_3 (Ad 0) (Aj (Ad 2) Au)) Au)))⟩)) Au))))
variable(j5:MethR P w K mg base true 3 3 "mend" "Living" g_3)(d8:MethT P w K mg base true 6 1 "ways_without" [("Living",b_1)]){j4:Addr}(u4:XC P w K mg base "NoValue" "at" j4)
def ax_9(F:Fun K "put" "Living.put" (Fw 28 7) f fd):FnX P w K mg base true 7 f fd ["self","key","value"] (spR K 2 h_2):=
 bn_7 (n:=2) (N:=["self","key","value","places","lacking","changed"]) F (by decide) (by decide) λzr zu hu nd zv=>(Av (aa_5 (i:=3) (af_2 [0] (v_6 b9 zu (Lk.lend zv) (Ad 0) (Aj (Ad 1) Au))) nd)
  (Av (Dj [0,2] (t_2 (g_5 (Cb zu zv j6 (Aj (Ad 2) (Aj (n_4 d7 (Ad 0)) Au)))))
   (Bc (bm_0 [] u4 (RoomC.mono zu (by decide)) ao_7 Am))
   Dn)
  (Av (aa_5 (i:=4) (af_2 [0] (Ar v_4 (Ad 2) (v_6 f6 zu (Lk.lend zv) (Ad 0) (Aj (Ad 1) Au)))) nd)
  (Av (Br (i:=5) [] Am nd)
  (Av (Dj [4] (Dt (x_2 hu) (Ad 4) Am (Dk _))
   (Bc (aa_5 (i:=5) (r_5 [1,3,4] (af_4 (i:=0) j5 zu zv (g_6 (Ad 3) (g_6 (Ad 4) (da_6 [0] (v_6 d8 zu (Lk.lend zv) (Ad 0) (Aj (Ad 1) Au)) ad_0))))) nd))
   Dn)
  (Av (da_7 (i:=0) hu d5 (Ad 2) (Ad 1))
  (Bc (ao_9 (af_5 [5] (Ad 5))))))))))
variable(k6:MethR P w K mg base true 7 2 "put" "Living" h_2)(t7:mg "Stuck" =some (.ref g7))(x9:Catches K g7 L45)
abbrev Ld:List Str:=["_law_living","_law_key_here","_law_value"]
def bw_3(F:Fun K "_law_put" "_law_put" (Bl 45) f fd):FnX P w K mg base true 8 f fd Ld (spR K 2 e_5):=
 bn_7 (n:=2) (N:=["_law_living","_law_key_here","_law_value","_law_found"]) F (by decide) (by decide) λzr zu hu nd zv=>(Av (da_2 nd rfl rfl (λzd W EXB lkB=>(Bc (aa_5 (i:=3) (r_5 [1,2] (af_4 (i:=0) k6 (cp_1 zu) lkB (g_6 (Ad 1) (g_6 (Ad 2) ad_0)))) nd))) (HOk3.bare t7 x9 (λe=>(Bc (Br (i:=3) [] ah_0 nd))) .nil))
  (Bc (ao_9 (af_5 [3] (Ad 3)))))
variable{l3:Addr}(u6:XC0 K mg "NoSuch" l3)
def aw_5(F:Fun K "drop" "Living.drop" (Fw 28 10) f fd):FnX P w K mg base true 4 f fd Lg (spR K 1 e_0):=
 bn_7 (n:=1) (N:= Lg) F (by decide) (by decide) λzr zu hu nd zv=>(Av (cx_8 [1] (Cb zu zv m8 (Aj (Ad 1) Au)))
  (Av (Dj [0,1] (Dt (az_9 hu) (Ad 1) (n_4 d5 (Ad 0)) (by with_unfolding_all rfl))
   (Bc (ba_1 u6 (RoomC.mono zu (by decide)) ao_7))
   Dn)
  (Bc (da_8 (i:=0) d5 (Ad 1)))))
abbrev Ly:List Str:=["self","part","salt","modulus"]
def ad_6(F:Fun K "__init__" "Living.__init__" (Fw 28 0) f fd){CI:Addr}(hCI:ClsAt K "Living" CI):FnX P w K mg base true 1 f fd Ly (spJ K CI "Living" 3 r_9):=
 dr_9 (n:=3) (cn:= "Living") (N:= Ly) F hCI (by decide) (by decide) λzr zu hu nd zv=>(Av (ao_5 (i:=0) [1] l8 (Ad 1))
  (Av (ao_5 (i:=0) [2] j7 (Ad 2))
  (Av (ao_5 (i:=0) [3] d7 (Ad 3))
  (Av (ao_5 (i:=0) [1] f8 (dl_3 (Aj Am Au) (Ar Dr (v_2 rfl x5) (Ad 1))))
  (Bc (db_1 (i:=0) d5 ao_3))))))
variable(n5:am_4 P w K mg base)(i9:an_1 P w K mg base)(o9:av_7 P w K mg base)(p4:av_9 P w K mg base)(k9:ac_4 P w K mg base)(o5:FnRd P w K mg base true "_law_put" 8 2 Ld e_5)(j8:MethR P w K mg base true 4 1 "drop" "Living" e_0)(o6:MakJ P w K mg base true "Living" 1 3 r_9)
def do_3(F:Fun K "law" "law" (Bl 47) f fd):FnX P w K mg base true 9 f fd ["_law_script"] (Ca K 1 dg_1):=
 Ct (N:=["_law_script","_law_sizes_here","_law_living","_law_beside","_law_kept","_law_k","_law_deed_here","_law_key_here","_law_value"]) F λzr zu hu nd zv=>(Av (Br (i:=1) [0] (Cb zu zv n5 (Aj (Ad 0) (Aj Am Au))) nd)
  (Av (Br (i:=2) [1] (ca_3 zu zv o6 (Aj (Cy (Ad 1) Am) (Aj (Cy (Ad 1) Am) (Aj (Cy (Ad 1) Am) Au)))) nd)
  (Av (Br (i:=3) [1] (ca_3 zu zv o6 (Aj (Cy (Ad 1) Am) (Aj (Cy (Ad 1) Am) (Aj (Cy (Ad 1) Am) Au)))) nd)
  (Av (Br (i:=4) [] ao_3 nd)
  (Av (Dj [1,2,4] (t_2 (g_5 (Cb zu zv i9 (Aj (Ad 2) (Aj (Ad 4) (Aj (Ad 1) (Aj Am Au)))))))
   (Bc (Ce [] aq_4))
   Dn)
  (Av (ai_0 [0] j_2 zr (ah_8 m6 (Aj (Cb zu zv o9 (Aj (Ad 0) (Aj Am (Aj Am Au)))) Au)) (ao_2 (i:=5) nd)
   (Av (db_2 (af_2 [4] (Cb zu (Lk.lend zv) p4 (Aj (Ad 0) (Aj Am (Aj (Ad 5) (Aj (Ad 4) (Aj (Ad 1) Au))))))) (bz_9 zr (aa_4 (i:=6) nd (aa_4 (i:=7) nd (aa_4 (i:=8) nd cp_5)))))
  (Av (Dj [4,6,7] (td_w (bs_1 (Dt (q_7 hu) (Ad 6) Am (Dk _)) (bd_7 (Dt (bt_6 hu) (Ad 7) (Ad 4) (by with_unfolding_all rfl)))))
   (Av (af_3 (r_5 [7] (af_4 (i:=2) j8 zu zv (g_6 (Ad 7) ad_0))))
  (Bc (db_4 (i:=4) (Ad 7))))
   (Bc (dm_7 (dm_6 (x_2 hu) (r_5 [7,8] (bm_6 (i:=2) zu zv o5 (g_6 (Ad 7) (g_6 (Ad 8) ad_0)))) (af_5 [] ah_0) (Dk _))
   (Bc (by_9 (i:=4) [8] hu (Ad 8) (Ad 7)))
   Dn)))
  (Av (af_3 (r_5 [1,5,7,8] (bm_6 (i:=3) zu zv o5 (g_6 (Ad 7) (g_6 (Ar Cm (Ar Ck (Ar Ck (Ad 8) Am) (Ad 5)) (Cy (Ad 1) Am)) ad_0)))))
  (Bc (Dj [1,2,4,5] (td_w (bs_1 (Dt (q_7 hu) (Ar Cm (Ad 5) Am) Am (Dk _)) (bd_7 (t_2 (g_5 (Cb zu zv i9 (Aj (Ad 2) (Aj (Ad 4) (Aj (Ad 1) (Aj (Cb zu zv l0 (Aj (Ad 5) Au)) Au))))))))))
   (Bc (Ce [] aq_4))
   Dn))))))
  (Bc (Ce [1,2,4] (ah_3 (Cb zu zv k9 (Aj (Ad 2) Au)) (ah_2 (Cb zu zv i9 (Aj (Ad 2) (Aj (Ad 4) (Aj (Ad 1) (Aj ah_0 Au)))))))))))))))
abbrev aw_6:Stmt:=Bl 47
end
theorem do_4{l:PySem.W.OpenLaw}{w:World}{K:Frag}{h:Heap}{mg:Str->Option Value}{fa:Addr}(X:K.In h)(G:h.Ns mainGlobals mg)(hfa:mg "law" =some (.ref fa))
  {c8 n9 j4 g7 l3:Addr}
  {f39:Addr} {ah5 ag8:Option Addr} {ah3:Array (Option Value)} {ah4 ag5 ah1 ag7 af6 ag9:Value}
  {y7 ae6 o8 ae7 af1:Tok}
  (c7:nsIn K mainGlobals "Living" =some (some (.ref c8)))
  (c9:Cls K c8)
  (ac6:makesIn K c8=true)
  (ad0:keepIn K (.ref c8)=true)
  (u9:NoAttr K c8 "listed")
  (x4:NoAttr K c8 "part")
  (p8:NoAttr K c8 "by_salt")
  (q8:NoAttr K c8 "modulus")
  (u3:NoAttr K c8 "by_key")
  (w1:FnTop K "_law_mix" (Bl 30))
  (w2:FnTop K "_law_cell" (Bl 31))
  (w3:FnTop K "_law_sizes" (Bl 38))
  (w4:FnTop K "_law_whole" (Bl 41))
  (w5:FnMet K c8 "table" "Living.table" (Fw 28 3))
  (w6:FnTop K "_law_table_right" (Bl 42))
  (w7:FnTop K "_law_stamp" (Bl 32))
  (w8:FnTop K "_law_mixed" (Bl 33))
  (w9:FnTop K "_law_places" (Bl 34))
  (w10:FnTop K "is_key_text" (Bl 17))
  (w11:FnTop K "is_key" (Bl 18))
  (w12:FnTop K "worth" (Bl 19))
  (w13:FnTop K "stamp" (Bl 20))
  (w14:FnTop K "mixed" (Bl 21))
  (w15:FnTop K "places_of" (Bl 23))
  (w16:FnMet K c8 "places" "Living.places" (Fw 28 4))
  (w17:FnTop K "is_below" (Bl 8))
  (w18:FnTop K "remainder" (Bl 10))
  (w19:FnTop K "summed" (Bl 11))
  (w20:FnMet K c8 "value" "Living.value" (Fw 28 1))
  (w21:FnTop K "_law_tells" (Bl 43))
  (w22:FnMet K c8 "kept" "Living.kept" (Fw 28 2))
  (w23:FnTop K "_law_right" (Bl 44))
  (w24:FnTop K "_law_many" (Bl 39))
  (w25:FnTop K "_law_raw" (Bl 37))
  (w26:FnTop K "_law_text" (Bl 35))
  (w27:FnTop K "_law_key" (Bl 36))
  (w28:FnTop K "_law_deed" (Bl 40))
  (w29:FnTop K "_law_spoiled" (Bl 46))
  (w30:FnTop K "steps_to" (Bl 27))
  (w31:FnMet K c8 "shift" "Living.shift" (Fw 28 9))
  (w32:FnMet K c8 "mend" "Living.mend" (Fw 28 8))
  (w33:FnTop K "ways_at" (Bl 26))
  (w34:FnMet K c8 "ways_without" "Living.ways_without" (Fw 28 5))
  (w35:FnMet K c8 "put" "Living.put" (Fw 28 7))
  (w36:FnTop K "_law_put" (Bl 45))
  (w37:FnMet K c8 "drop" "Living.drop" (Fw 28 10))
  (w38:FnMet K c8 "__init__" "Living.__init__" (Fw 28 0))
  (a39:nsIn K mainGlobals "law" =some (some (.ref f39))) (l39:K.lookup f39=some ⟨ah4,ah5,.func (fnOf "law" "law" (i_8 aw_6) (Fk aw_6) (Ci aw_6) .none ag5 ah1 ag7 ag8 af6 ag9),ah3⟩) (c39:codeIn K af6 "law" =true) (k39:keepIn K (.ref f39)=true)
  (ah2:nsIn K mainGlobals "len" =some none)
  (z8:nsIn K mainGlobals "isinstance" =some none)
  (ag4:nsIn K mainGlobals "int" =some none)
  (ag0:nsIn K mainGlobals "bool" =some none)
  (af7:nsIn K mainGlobals "list" =some none)
  (ag6:nsIn K mainGlobals "all" =some none)
  (ah0:nsIn K mainGlobals "str" =some none)
  (af2:nsIn K mainGlobals "tuple" =some none)
  (af3:nsIn K mainGlobals "range" =some none)
  (ag1:nsIn K mainGlobals "sum" =some none)
  (ae2:nsIn K mainGlobals "sorted" =some none)
  (ag2:nsIn K mainGlobals "max" =some none)
  (ag3:nsIn K mainGlobals "min" =some none)
  (aa1:nsIn K mainGlobals "enumerate" =some none)
  (ad6:kitOne K (.type "NoneType") (.type "int")=some false)
  (ae8:kitOne K (.type "bool") (.type "int")=some true)
  (ac8:kitOne K (.type "int") (.type "int")=some true)
  (ad7:kitOne K (.type "str") (.type "int")=some false)
  (ad3:kitOne K (.type "list") (.type "int")=some false)
  (ac3:kitOne K (.type "tuple") (.type "int")=some false)
  (ab7:kitOne K (.type "NoneType") (.type "bool")=some false)
  (ac5:kitOne K (.type "bool") (.type "bool")=some true)
  (ab3:kitOne K (.type "int") (.type "bool")=some false)
  (ab0:kitOne K (.type "str") (.type "bool")=some false)
  (aa9:kitOne K (.type "list") (.type "bool")=some false)
  (ab9:kitOne K (.type "tuple") (.type "bool")=some false)
  (ab4:kitOne K (.type "NoneType") (.type "list")=some false)
  (ad2:kitOne K (.type "bool") (.type "list")=some false)
  (ab1:kitOne K (.type "int") (.type "list")=some false)
  (aa8:kitOne K (.type "str") (.type "list")=some false)
  (ab6:kitOne K (.type "list") (.type "list")=some true)
  (ac0:kitOne K (.type "tuple") (.type "list")=some false)
  (ac2:kitOne K (.type "NoneType") (.type "str")=some false)
  (ae4:kitOne K (.type "bool") (.type "str")=some false)
  (ad1:kitOne K (.type "int") (.type "str")=some false)
  (ac1:kitOne K (.type "str") (.type "str")=some true)
  (ac4:kitOne K (.type "list") (.type "str")=some false)
  (ac7:kitOne K (.type "tuple") (.type "str")=some false)
  (aa6:kitOne K (.type "NoneType") (.type "tuple")=some false)
  (ab2:kitOne K (.type "bool") (.type "tuple")=some false)
  (aa3:kitOne K (.type "int") (.type "tuple")=some false)
  (aa4:kitOne K (.type "str") (.type "tuple")=some false)
  (aa2:kitOne K (.type "list") (.type "tuple")=some false)
  (aa5:kitOne K (.type "tuple") (.type "tuple")=some true)
  (z9:nsIn K mainGlobals "MOST_SIGNS" =some (some (.int 11 y7)))
  (af5:nsIn K mainGlobals "SIGNS" =some (some (.str "abcdefghijklmnopqrstuvwxyz0123456789-_ " ae6)))
  (p7:nsIn K mainGlobals "GREATEST_NUMBER" =some (some (.int 999999999999999999 o8)))
  (af0:nsIn K mainGlobals "PRIME" =some (some (.int 2305843009213693951 ae7)))
  (af8:nsIn K mainGlobals "KIND" =some (some (.int 2 af1)))
  (x6:nsIn K mainGlobals "NoKey" =some (some (.ref n9)))
  (o7:nsIn K mainGlobals "NoValue" =some (some (.ref j4)))
  (y0:nsIn K mainGlobals "Stuck" =some (some (.ref g7)))
  (t8:nsIn K mainGlobals "NoSuch" =some (some (.ref l3)))
  (ad9:XB K n9 "NoKey.__init__" "at" w_5)
  (y1:exmOne K (.ref n9) (.ref g7)=some false)
  (ab8:XB K j4 "NoValue.__init__" "at" s_1)
  (u5:exmOne K (.ref j4) (.ref g7)=some false)
  (ae3:XB9 K g7)
  (y4:exmOne K (.ref g7) (.ref g7)=some true)
  (ac9:XB9 K l3)
  (v6:exmOne K (.ref l3) (.ref g7)=some false):
  ∃fd:FuncData,(∀(s:Shared) (v:Value),BindsTo s fd ⟨[v],[]⟩ [("_law_script",v)])/\∀base:Heap,K.In base->base.Ns mainGlobals mg->FnOk l.prog w K mg base CX0 9 fa fd ["_law_script"] (ar_3 K):=by
 have ad4:=mg_of X G c7;have f8:OFld K ["Living"] "listed" :=(.one c7 c9 u9 .nil);have l8:OFld K ["Living"] "part" :=(.one c7 c9 x4 .nil);have j7:OFld K ["Living"] "by_salt" :=(.one c7 c9 p8 .nil);have d7:OFld K ["Living"] "modulus" :=(.one c7 c9 q8 .nil);have d5:OFld K ["Living"] "by_key" :=(.one c7 c9 u3 .nil);have ae0:=mg_of X G x6;have ab5:=mg_of X G o7;have t7:=mg_of X G y0;have ad5:=mg_of X G t8;have y3:XC0 K mg "Stuck" g7:=cp_7 y0 t7 ae3;have u6:XC0 K mg "NoSuch" l3:=cp_7 t8 ad5 ac9;have x9:Catches K g7 L45:=(.one x6 y1 (.one t8 v6 (.one o7 u5 (.one y0 y4 .nil))));have e:=hfa.symm.trans (mg_of X G a39);cases e;have f9:=mg_none_of X G ah2;have a9:=mg_none_of X G z8;have y6:=mg_none_of X G ag4;have l7:=mg_none_of X G ag0;have k7:=mg_none_of X G af7;have ad8:=mg_none_of X G ag6;have aa7:=mg_none_of X G ah0;have q9:=mg_none_of X G af2;have m6:=mg_none_of X G af3;have ae5:=mg_none_of X G ag1;have n6:=mg_none_of X G ae2;have y8:=mg_none_of X G ag2;have ae1:=mg_none_of X G ag3;have n8:=mg_none_of X G aa1;have l9:KitT K "int" :=⟨ad6,ae8,ac8,ad7,ad3,ac3⟩;have g9:KitT K "bool" :=⟨ab7,ac5,ab3,ab0,aa9,ab9⟩;have x0:KitT K "list" :=⟨ab4,ad2,ab1,aa8,ab6,ac0⟩;have r6:KitT K "str" :=⟨ac2,ae4,ad1,ac1,ac4,ac7⟩;have u7:KitT K "tuple" :=⟨aa6,ab2,aa3,aa4,aa2,aa5⟩;have m7:=mg_of X G z9;have r9:=mg_of X G af5;have i7:=mg_of X G p7;have p6:=mg_of X G af0;have x5:=mg_of X G af8;have F39:=br_9 (st:=aw_6) l39 c39 k39;refine⟨fnOf "law" "law" (i_8 aw_6) (Fk aw_6) (Ci aw_6) .none ag5 ah1 ag7 ag8 af6 ag9,λs v=> .of_eq rfl,λbase _ _=> ?_⟩
 let lMd:=MethD l.prog w K mg base true
 let lMt:=MethT l.prog w K mg base true
 let lMk:=MakD l.prog w K mg base true
 let lXC:=XC l.prog w K mg base
 let lT:=λt:Program->World->Frag->(Str->Option Value)->Heap->Prop=>t l.prog w K mg base
 have z7:lXC "NoKey" "at" n9:=df_7 x6 ae0 ad9 λF y z=>⟨ax_7 F y z,bn2 F⟩;have u4:lXC "NoValue" "at" j4:=df_7 o7 ab5 ab8 λF y z=>⟨an_6 F y z,bn2 F⟩;have f7:lT bc_3:=Dv X G w1 λF=>⟨bv_9 F,bn2 F⟩;have d9:lT av_5:=Dv X G w2 λF=>⟨bp_8 f7 f9 F,bn2 F⟩;have n5:lT am_4:=Dv X G w3 λF=>⟨bh_4 f7 d9 F,bn2 F⟩;have j2:lT am_5:=Dv X G w4 λF=>⟨bh_5 a9 y6 l7 l9 g9 F,bn1 F⟩;have v9:lMd 1 0 "table" "Living" b_7:=bm_2 c7 c9 w5 λF=>⟨an_7 f8 k7 F,bn1 F⟩;have c6:lMt 1 0 "table" [("Living",b_7)]:=(mto v9 mtn);have i6:lT t_1:=Dv X G w6 λF=>⟨ad_5 f9 a9 k7 j2 c6 x0 F,bn2 F⟩;have j3:lT am_6:=Dv X G w7 λF=>⟨bh_6 a9 y6 l9 F,bn1 F⟩;have j9:lT am_7:=Dv X G w8 λF=>⟨bh_7 F,bn3 F⟩;have l4:lT ag_6:=Dv X G w9 λF=>⟨ax_8 j3 j9 F,bn2 F⟩;have k8:lT ac_3:=Dv X G w10 λF=>⟨aw_1 f9 ad8 m7 r9 F,bn1 F⟩;have x3:lT bp_6:=Dv X G w11 λF=>⟨ci_8 a9 y6 l7 l9 g9 k8 aa7 r6 i7 F,bn1 F⟩;have y9:lT cc_7:=Dv X G w12 λF=>⟨cu_6 r9 F,bn1 F⟩;have m8:lT cc_8:=Dv X G w13 λF=>⟨cu_7 a9 aa7 r6 x3 y9 z7 F,bn1 F⟩;have z6:lT cc_9:=Dv X G w14 λF=>⟨cu_8 p6 F,bn3 F⟩;have m9:lT am_8:=Dv X G w15 λF=>⟨bh_8 m8 z6 q9 m6 F,bn4 F⟩;have t9:lMd 5 1 "places" "Living" b_5:=bm_2 c7 c9 w16 λF=>⟨ak_2 m9 l8 j7 x5 F,bn2 F⟩;have j6:lT av_6:=Dv X G w17 λF=>⟨bp_9 a9 l7 g9 F,bn2 F⟩;have i8:lT am_9:=Dv X G w18 λF=>⟨bh_9 F,bn2 F⟩;have x8:lT bp_7:=Dv X G w19 λF=>⟨ci_9 f9 j6 i8 ae5 F,bn3 F⟩;have b9:lMt 5 1 "places" [("Living",b_5)]:=(mto t9 mtn);have v7:lMd 6 1 "value" "Living" c_6:=bm_2 c7 c9 w20 λF=>⟨an_8 f8 x8 b9 d7 F,bn2 F⟩;have f6:lMt 6 1 "value" [("Living",c_6)]:=(mto v7 mtn);have k4:lT an_0:=Dv X G w21 λF=>⟨bi_0 a9 l7 g9 j2 q9 b9 l4 f6 u7 F,bn4 F⟩;have y2:lMd 5 0 "kept" "Living" c_4:=bm_2 c7 c9 w22 λF=>⟨aw_2 m8 d5 n6 F,bn1 F⟩;have d6:lMt 5 0 "kept" [("Living",c_4)]:=(mto y2 mtn);have i9:lT an_1:=Dv X G w23 λF=>⟨bi_1 c6 j3 n6 i6 k4 d6 F,bn4 F⟩;have o9:lT av_7:=Dv X G w24 λF=>⟨bq_0 f9 d9 y8 ae1 F,bn3 F⟩;have u1:lT bc_4:=Dv X G w25 λF=>⟨bw_0 f7 f9 d9 F,bn2 F⟩;have p5:lT av_8:=Dv X G w26 λF=>⟨bq_1 m6 F,bn1 F⟩;have l0:lT bc_5:=Dv X G w27 λF=>⟨bw_1 p5 F,bn1 F⟩;have p4:lT av_9:=Dv X G w28 λF=>⟨bq_2 f7 f9 d9 k7 y8 u1 l0 F,bn5 F⟩;have k9:lT ac_4:=Dv X G w29 λF=>⟨aw_3 k7 c6 d6 F,bn1 F⟩;have l5:lT aw_0:=Dv X G w30 λF=>⟨bq_3 f9 F,bn2 F⟩;have g8:MethR l.prog w K mg base true 2 3 "shift" "Living" d_1:=ca_4 c7 c9 w31 λF=>⟨an_9 f8 l8 i8 d7 n8 F,bn4 F⟩;have j5:MethR l.prog w K mg base true 3 3 "mend" "Living" g_3:=ca_4 c7 c9 w32 λF=>⟨aw_4 f9 l5 g8 y3 F,bn4 F⟩;have v5:lT bc_6:=Dv X G w33 λF=>⟨bw_2 F,bn1 F⟩;have l6:lMd 6 1 "ways_without" "Living" b_1:=bm_2 c7 c9 w34 λF=>⟨w_6 b9 d5 v5 F,bn2 F⟩;have d8:lMt 6 1 "ways_without" [("Living",b_1)]:=(mto l6 mtn);have k6:MethR l.prog w K mg base true 7 2 "put" "Living" h_2:=ca_4 c7 c9 w35 λF=>⟨ax_9 j6 b9 d7 f6 d5 j5 d8 u4 F,bn3 F⟩;have o5:FnRd l.prog w K mg base true "_law_put" 8 2 Ld e_5:=db_5 X G w36 λF=>⟨bw_3 k6 t7 x9 F,bn3 F⟩;have j8:MethR l.prog w K mg base true 4 1 "drop" "Living" e_0:=ca_4 c7 c9 w37 λF=>⟨aw_5 m8 d5 u6 F,bn2 F⟩;have o6:MakJ l.prog w K mg base true "Living" 1 3 r_9:=dm_9 c7 ad4 ac6 ad0 w38 λF=>⟨ad_6 f8 l8 j7 x5 d7 d5 F c7,bn4 F⟩;exact dk_9 (do_3 (P:=l.prog) (w:=w) (base:=base) m6 l0 n5 i9 o9 p4 k9 o5 j8 o6 F39) cu_5
end My


open PySem PySem.W PyProof.Rows
set_option maxRecDepth 100000 in
set_option maxHeartbeats 0 in
theorem PySem.Challenge.cw_lodge_k71_values_told_holds : PySem.Challenge.rw_lodge_k71_values_told.Holds := by
 w_on; o_law; k_head; (case hw => w_witness2)
 k_fill
 refine L3.dr_4 (l := PySem.Challenge.rw_lodge_k71_values_told) (x := "_law_script") (k := 9) rfl rfl ⟨rfl, by decide, by decide⟩ (λw h Y => PySem.W.kIn_of Y) ?F
 case F =>
  intro w mg fa h KX G hmg
  refine' My.do_4 KX G hmg ?c1 ?c2 ?c3 ?c4 ?c5 ?c6 ?c7 ?c8 ?c9 ?c10 ?c11 ?c12 ?c13 ?c14 ?c15 ?c16 ?c17 ?c18 ?c19 ?c20 ?c21 ?c22 ?c23 ?c24 ?c25 ?c26 ?c27 ?c28 ?c29 ?c30 ?c31 ?c32 ?c33 ?c34 ?c35 ?c36 ?c37 ?c38 ?c39 ?c40 ?c41 ?c42 ?c43 ?c44 ?c45 ?c46 ?c47 ?c48 ?c49 ?c50 ?c51 ?c52 ?c53 ?c54 ?c55 ?c56 ?c57 ?c58 ?c59 ?c60 ?c61 ?c62 ?c63 ?c64 ?c65 ?c66 ?c67 ?c68 ?c69 ?c70 ?c71 ?c72 ?c73 ?c74 ?c75 ?c76 ?c77 ?c78 ?c79 ?c80 ?c81 ?c82 ?c83 ?c84 ?c85 ?c86 ?c87 ?c88 ?c89 ?c90 ?c91 ?c92 ?c93 ?c94 ?c95 ?c96 ?c97 ?c98 ?c99 ?c100 ?c101 ?c102 ?c103 ?c104 ?c105 ?c106 ?c107 ?c108 ?c109 ?c110 ?c111 ?c112
  (case c1 | c3 | c4 | c48 | c49 | c50 | c51 | c52 | c53 | c54 | c55 | c56 | c57 | c58 | c59 | c60 | c61 | c62 | c63 | c64 | c65 | c96 | c97 | c98 | c99 | c100 | c101 | c102 | c103 | c104 => k_is)
  (case c2 => (refine' L2.Cls.mk ?z0 ?z1 ?z2 ?z3; (case z0 => k_is); (case z1 => k_is); (case z2 => k_is); (case z3 => k_is)))
  (case c5 | c6 | c7 | c8 | c9 => (refine' L3.NoAttr.mk ?z0; (case z0 => k_is)))
  (case c10 | c11 | c12 | c13 | c15 | c16 | c17 | c18 | c19 | c20 | c21 | c22 | c23 | c24 | c26 | c27 | c28 | c30 | c32 | c33 | c34 | c35 | c36 | c37 | c38 | c39 | c42 | c45 => (refine' L3.FnTop.mk ?a ?l ?c ?k; (case a => k_is); (case l => k_is); (case c => k_is); (case k => k_is)))
  (case c14 | c25 | c29 | c31 | c40 | c41 | c43 | c44 | c46 | c47 => (refine' L3.FnMet.mk ?a ?l ?c ?k ?i; (case a => k_is); (case l => k_is); (case c => k_is); (case k => k_is); (case i => k_is)))
  (case c66 | c67 | c68 | c69 | c70 | c71 | c72 | c73 | c74 | c75 | c76 | c77 | c78 | c79 | c80 | c81 | c82 | c83 | c84 | c85 | c86 | c87 | c88 | c89 | c90 | c91 | c92 | c93 | c94 | c95 => kit_is)
  (case c105 | c107 => (refine' L3.XB.mk ?z0 ?z1 ?z2 ?z3 ?z4 ?z5 ?z6 ?z7 ?z8 ?z9 ?z10 ?z11 ?z12 ?z13 ?z14; (case z0 => k_is); (case z1 => k_is); (case z2 => k_is); (case z3 => rfl); (case z4 => rfl); (case z5 => k_is); (case z6 => k_is); (case z7 => rfl); (case z8 => rfl); (case z9 => k_is); (case z10 => k_is); (case z11 => k_is); (case z12 => k_is); (case z13 => k_is); (case z14 => k_is)))
  (case c106 | c108 | c110 | c112 => kts_exm)
  (case c109 | c111 => (refine' L3.XB0 ?z0 ?z1 ?z2 ?z3 ?z4 ?z5 ?z6 ?z7 ?z8; (case z0 => k_is); (case z1 => k_is); (case z2 => rfl); (case z3 => rfl); (case z4 => k_is); (case z5 => k_is); (case z6 => rfl); (case z7 => rfl); (case z8 => k_is)))

end
