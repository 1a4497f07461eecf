import PyProof.Rows.All
import Wide.All
import OpenK.AllK
import Wide.FinOn
import PyProof.EqAt
import PyProof.EqKinds
import PyProof.TupleCall
import KE.BitLaws
import Open.SpecLaws
import KE.OsHead
import KE.OsGo
import PySem.Challenge.RW_understood_s01_answers
set_option Elab.async false
set_option linter.all false
set_option maxRecDepth 100000
set_option maxHeartbeats 2000000
open Option.some renaming inj → aa
open List renaming length_map → ae, mem_singleton → ag, replicate → aj, length_append → au, mem_map → ay, mem_append → az, mem_cons → aC, mem_cons_of_mem → aG, mem_cons_self → aI, map_append → aJ, getElem?_eq_getElem → aK, length_cons → aM, mem_append_right → aO, getElem?_eq_some_iff → aP, mem_append_left → aQ, map_cons → aU, length_replicate → aX, mem_of_getElem? → a7, size_toArray → a8, getElem?_map → bq, map_map → bt, foldl_cons → bu, length_singleton → bD, map_congr_left → bF, length_range → bJ, append_assoc → bK, not_mem_nil → bN, all_eq_true → bQ, range → bS, getElem?_set_self → b5, getD_eq_getElem?_getD → cf, append_nil → cq, replicate_succ → cv, take_length → cz, getElem?_append_right → cB, filterMap_cons → cF, drop_eq_getElem_cons → cK, length_nil → cR, nodup_cons → c7, getElem?_set_ne → dj, nil_append → dm, length_drop → dy, getElem?_append_left → dB, length_reverse → dJ, flatten_cons → eC, mem_filter → eL, find?_cons → eM, mem_of_find?_eq_some → eW, foldl_append → gh, drop_eq_nil_of_le → gZ, mem_range → hX, length → ja, lookup_cons → jN, any_eq_true → jO, map_replicate → kH, count_eq_zero → kI, length_set → kR, all_cons → kS, filterMap_append → lr, contains_iff_mem → lu, nodup_append → ly, cons_append → mW, countP_eq_zero → nA, mem_replicate → oR, mem_filterMap → oS, lookup → oU, length_eq_zero_iff → oV, reverse_cons → pR, nodup_nil → pS, count_append → pT, take_append_drop → qL, length_filter_le → qM, getElem?_eq_none → qN, length_take → rA, countP_cons → rB, any_cons → rS, map_nil → tX, map → xY, getElem?_cons_zero → xZ, filter_cons → ya, mem_iff_getElem? → Av, drop_drop → BY, getElem?_range → DT
open PySem.W renaming Frag → ai, mg_of → aD, nsIn → bj, findIn → bC, emptyDict → eA, instObj → iU, mg_none_of → jQ, keepIn → oT, excIn → qK, hideAll_get → sk, fnOf → sE, plainGet → wc, hideAll → xW, methodCall_KW → yb, lookIn → zq, plainGet_of → AS, callWith_K → B1, methodObj → DV, isFn → DW, hasDictIn → DX
open PySem renaming wpAny_bind → ao, Spec → aR, wpAny_pure → aS, mem_of_lookup → b6, boot_len → cb, wpAny_newObj_type → gY, wpAny_mono → g8, wpAny_holding → jP, wpAny_typeNameOfWhole_keyiter → lq, wpAny_passesOwn → l7, plainId_quiet → mD, wpAny_typeNameOf_keyiter → o8, codeAny_builtin → pQ, wpAny_Call_Name_kw → p9, tupleKind_room_in1 → qb, wpAny_call_entry → tN, call_meets → tO, wpAny_execs_nil → uQ, wpAny_truthy_bool → za, wpAny_callSpecial?_slot → AR, wpAny_typeOf → BZ, pushCells_keeps → DS, wpAny_notOrdered_dict → DU
open Kp190 renaming Book → ax, Row → bc, Best → bR, Field → b8, Form → cp, step → cA, closed → cM, ask → gg, goodFields → g9, Call → nT, refers → pb, say → qO, form → qP, add → qQ, rising → tQ, State → vY, FORMS → vZ, isOf → ye
open Nat renaming le_refl → aB, zero_le → aT, le_trans → bP, ne_of_lt → bV, lt_of_lt_of_le → b7, zero_add → fD, lt_irrefl → hG, le_of_lt → jd, lt_trans → kO, lt_of_le_of_lt → kP, sub_self → mZ, add_zero → m7, lt_or_ge → qd, le_of_eq → uo, add_sub_cancel → uS, le_of_succ_le → xg, ne_of_gt → zr, min_eq_left → Au, add_le_add_right → B4, eq_zero_or_pos → FD
open Prod.mk renaming inj → aV
open PySem.F renaming plainAttrs_list → aW, type_list_append → bA, slot_list_append → bB, type_list_extend → i6, slot_list_extend → i7, slot_tuple_getattribute → o9, slot_list_getattribute → qc, excBase_ValueError → tP, slot_dict_get → yc
open Bool renaming false_ne_true → aZ, and_eq_true → a5, noConfusion → cT, false_eq_true → ia, eq_iff_iff → i8, false_and → mE, true_and → rT
open Or renaming inl → ba
open Ne renaming symm → br
open PyKp190 renaming shape → bE, whole → d4, answers → xX, answers_asked → yd
open Kp190Neutral renaming outs → bT, natural → bY, chunksBy → cZ, chunks → lx, step → Aw
open Int renaming toNat_natCast → cc, eq_ofNat_of_zero_le → cE, toNat_of_nonneg → nQ
open Option renaming map_eq_some_iff → cY, none → uR, isSome_map → Fb
open False renaming elim → dF
open PyFlat renaming rows → gG, calls → tL
open PyProof.Rows renaming callWith_type1 → jR, slot_tuple_getitem → nS
open Sum renaming inl → l4
open Array renaming length_toList → tM, getElem?_eq_none → yf, getElem?_toList → zt
open ForInStep renaming yield → xh
open True renaming intro → zb
open Sum.inl renaming inj → zp
namespace L2
open PySem PySem.Spec PyProof.Rows
abbrev Key:=Sum Int Str
def vp:Key→Value→Bool
 | .inl k,v=>Value.isInt k v
 | .inr x,v=>Value.isStrOf x v
def ab9 (w:World):Key→Int
 | .inl k=>hashInt k
 | .inr x=>hashStr w x
theorem gv:∀ {k:Key}{v:Value},vp k v=true→(∃ i t,k=l4 i∧v=Value.int i t)∨(∃ x t,k=Sum.inr x∧v=Value.str x t)
 | .inl i,v,h=>by
   obtain⟨t,e⟩:=Value.isInt_shape (k:=i) (v:=v) h
   exact .inl ⟨i,t,rfl,e⟩
 | .inr x,v,h=>by
   obtain⟨t,e⟩:=Value.isStrOf_shape (x:=x) (v:=v) h
   exact .inr ⟨x,t,rfl,e⟩
theorem Sn (i:Int) (t:Tok):vp (.inl i) (.int i t)=true:=by simp[vp,Value.isInt]
theorem Sm (x:Str) (t:Tok):vp (.inr x) (.str x t)=true:=by simp[vp,Value.isStrOf]
theorem XQ (a b:Int):decide ((l4 a:Key)=l4 b)=(a == b):=by
 by_cases e:a=b
 ·subst e;simp
 ·have h:¬ (l4 a:Key)=l4 b:=fun q=>e (zp q)
  rw[decide_eq_false h]
  exact(beq_eq_false_iff_ne.mpr e).symm
theorem XM (a b:Str):decide ((Sum.inr a:Key)=Sum.inr b)=decide (a=b):=by
 by_cases e:a=b
 ·subst e;simp
 ·have h:¬ (Sum.inr a:Key)=Sum.inr b:=fun q=>e (Sum.inr.inj q)
  rw[decide_eq_false h,decide_eq_false e]
theorem XO (a:Int) (b:Str):decide ((l4 a:Key)=Sum.inr b)=false:=decide_eq_false (fun q=>nomatch q)
theorem XN (a:Str) (b:Int):decide ((Sum.inr a:Key)=l4 b)=false:=decide_eq_false (fun q=>nomatch q)
def da (prog:Program) (w:World):PySem.KeyKind prog w Key where
 is:=vp
 hash:=ab9 w
 inj:=fun v a b ha hb=>by
  rcases gv ha with ⟨i,t,rfl,rfl⟩ | ⟨x,t,rfl,rfl⟩
  ·rcases gv hb with ⟨j,u,rfl,e⟩ | ⟨y,u,rfl,e⟩
   ·injection e with e1 _;rw[e1]
   ·exact nomatch e
  ·rcases gv hb with ⟨j,u,rfl,e⟩ | ⟨y,u,rfl,e⟩
   ·exact nomatch e
   ·injection e with e1 _;rw[e1]
 byValue:=fun k v h=>by
  rcases gv h with ⟨i,t,rfl,rfl⟩ | ⟨x,t,rfl,rfl⟩<;>rfl
 pyHash:=fun hv h=>by
  rcases gv hv with ⟨i,t,rfl,rfl⟩ | ⟨x,t,rfl,rfl⟩
  ·exact wpAny_pyHash_int h
  ·exact wpAny_pyHash_str h
 eqBool:=fun hu hv h=>by
  rcases gv hu with ⟨i,t,rfl,rfl⟩ | ⟨x,t,rfl,rfl⟩
  ·rcases gv hv with ⟨j,u,rfl,rfl⟩ | ⟨y,u,rfl,rfl⟩
   ·rw[XQ] at h;exact wpAny_eqBool_int h
   ·rw[XO] at h;exact SeqAt.EqAt.int_str i t y u _ _ _ _ h
  ·rcases gv hv with ⟨j,u,rfl,rfl⟩ | ⟨y,u,rfl,rfl⟩
   ·rw[XN] at h;exact SeqAt.EqAt.str_int x t j u _ _ _ _ h
   ·rw[XM] at h;exact wpAny_eqBool_str h
 «strs»:=fun k x t v h=>by
  rcases gv h with ⟨i,u,rfl,e⟩ | ⟨y,u,rfl,e⟩
  ·exact nomatch e
  ·injection e with e1 _
   subst e1
   cases v<;>rfl
theorem Ox (prog:Program) (w:World) (i:Int) (t:Tok):(da prog w).is (.inl i) (.int i t)=true:=Sn i t
theorem Ow (prog:Program) (w:World) (x:Str) (t:Tok):(da prog w).is (.inr x) (.str x t)=true:=Sm x t
end L2
namespace L2
open PySem PySem.Spec PyProof.Rows
inductive V where
 | non | bl (b:Bool) | int (i:Int) | str (x:Str) | byt (b:Array UInt8) | flt (b:UInt64) | ref (a:Addr) | ty (n:String)
 deriving DecidableEq
def RelV:V→Value→Prop
 | .non,u=>u=Value.none
 | .bl b,u=>u=Value.bool b
 | .int i,u=>∃ t,u=Value.int i t
 | .str x,u=>∃ t,u=Value.str x t
 | .byt b,u=>∃ t,u=Value.bytes b t
 | .flt b,u=>∃ t,u=Value.float b t
 | .ref a,u=>u=Value.ref a
 | .ty n,u=>u=Value.type n
abbrev Vals:List V→List Value→Prop:=Paired RelV
theorem Vals.length {xs:List V}{us:List Value} (r:Vals xs us):xs.length=us.length:=Paired.length r
theorem Vals.get:∀ {xs:List V}{us:List Value}{i:Nat}{x:V},Vals xs us→xs[i]?=some x→∃ u,us[i]?=some u∧RelV x u
 | _,_,_,_,.nil,e=>by simp at e
 | _,_,0,_,.cons r _,e=>by simp at e;subst e;exact⟨_,rfl,r⟩
 | _,_,i+1,x,.cons _ t,e=>by
   obtain⟨u,h1,h2⟩:=Vals.get (i:=i) (x:=x) t (by simpa using e)
   exact⟨u,by simpa using h1,h2⟩
theorem Vals.set {x:V}{u:Value} (r:RelV x u):∀ {xs:List V}{us:List Value} (i:Nat),Vals xs us→Vals (xs.set i x) (us.set i u)
 | _,_,_,.nil=>.nil
 | _,_,0,.cons _ t=>.cons r t
 | _,_,i+1,.cons q t=>.cons q (Vals.set r i t)
theorem Vals.append:∀ {xs ys:List V}{us ws:List Value},Vals xs us→Vals ys ws→Vals (xs++ys) (us++ws)
 | _,_,_,_,.nil,s=>s
 | _,_,_,_,.cons r t,s=>.cons r (Vals.append t s)
theorem Vals.take:∀ {xs:List V}{us:List Value} (n:Nat),Vals xs us→Vals (xs.take n) (us.take n)
 | _,_,0,_=>.nil
 | _,_,_+1,.nil=>.nil
 | _,_,n+1,.cons r t=>.cons r (Vals.take n t)
theorem Vals.drop:∀ {xs:List V}{us:List Value} (n:Nat),Vals xs us→Vals (xs.drop n) (us.drop n)
 | _,_,0,r=>r
 | _,_,_+1,.nil=>.nil
 | _,_,n+1,.cons _ t=>Vals.drop n t
def xP:Option V→Option Value→Prop
 | some v,some u=>RelV v u
 | none,none=>True
 | _,_=>False
def KV {κ:Type}:List (κ×V)→List (κ×Value)→Prop:=Paired fun(p:κ×V) (q:κ×Value)=>p.1=q.1∧RelV p.2 q.2
def kV:Key→V
 | .inl i=>.int i
 | .inr x=>.str x
inductive HO where
 | lst (xs:List V)
 | tup (xs:List V)
 | dK (kvs:List (Key×V)) | dT (kvs:List (List Key×V))
 | set (S:Int→Bool) (n:Nat)
 | ins (C dx:Addr) (fs:List (Str×V))
 | own (x:Addr)
 | xd (fs:List (Str×V))
 | met (f x:Addr)
 | rng (lo hi:Int)
 | frz (o:Obj) (u:HO)
 | tbl (ps:Array Value)
 | ext (φ:Heap→Prop)
inductive Ex2 {A0 A1:Type} (p:A0→A1→Prop):Prop | mk (x0:A0) (x1:A1) (h:p x0 x1):Ex2 p
inductive Ex3 {A0 A1 A2:Type} (p:A0→A1→A2→Prop):Prop | mk (x0:A0) (x1:A1) (x2:A2) (h:p x0 x1 x2):Ex3 p
inductive Ex4 {A0 A1 A2 A3:Type} (p:A0→A1→A2→A3→Prop):Prop | mk (x0:A0) (x1:A1) (x2:A2) (x3:A3) (h:p x0 x1 x2 x3):Ex4 p
inductive Ex5 {A0 A1 A2 A3 A4:Type} (p:A0→A1→A2→A3→A4→Prop):Prop | mk (x0:A0) (x1:A1) (x2:A2) (x3:A3) (x4:A4) (h:p x0 x1 x2 x3 x4):Ex5 p
inductive Ex6 {A0 A1 A2 A3 A4 A5:Type} (p:A0→A1→A2→A3→A4→A5→Prop):Prop | mk (x0:A0) (x1:A1) (x2:A2) (x3:A3) (x4:A4) (x5:A5) (h:p x0 x1 x2 x3 x4 x5):Ex6 p
inductive Ex7 {A0 A1 A2 A3 A4 A5 A6:Type} (p:A0→A1→A2→A3→A4→A5→A6→Prop):Prop | mk (x0:A0) (x1:A1) (x2:A2) (x3:A3) (x4:A4) (x5:A5) (x6:A6) (h:p x0 x1 x2 x3 x4 x5 x6):Ex7 p
inductive Ex8 {A0 A1 A2 A3 A4 A5 A6 A7:Type} (p:A0→A1→A2→A3→A4→A5→A6→A7→Prop):Prop | mk (x0:A0) (x1:A1) (x2:A2) (x3:A3) (x4:A4) (x5:A5) (x6:A6) (x7:A7) (h:p x0 x1 x2 x3 x4 x5 x6 x7):Ex8 p
inductive Ex9 {A0 A1 A2 A3 A4 A5 A6 A7 A8:Type} (p:A0→A1→A2→A3→A4→A5→A6→A7→A8→Prop):Prop | mk (x0:A0) (x1:A1) (x2:A2) (x3:A3) (x4:A4) (x5:A5) (x6:A6) (x7:A7) (x8:A8) (h:p x0 x1 x2 x3 x4 x5 x6 x7 x8):Ex9 p
inductive YH {A0 A1 A2 A3 A4 A5 A6 A7 A8 A9:Type} (p:A0→A1→A2→A3→A4→A5→A6→A7→A8→A9→Prop):Prop | mk (x0:A0) (x1:A1) (x2:A2) (x3:A3) (x4:A4) (x5:A5) (x6:A6) (x7:A7) (x8:A8) (x9:A9) (h:p x0 x1 x2 x3 x4 x5 x6 x7 x8 x9):YH p
inductive aaE {A0 A1 A2 A3 A4 A5 A6 A7 A8 A9 A10:Type} (p:A0→A1→A2→A3→A4→A5→A6→A7→A8→A9→A10→Prop):Prop | mk (x0:A0) (x1:A1) (x2:A2) (x3:A3) (x4:A4) (x5:A5) (x6:A6) (x7:A7) (x8:A8) (x9:A9) (x10:A10) (h:p x0 x1 x2 x3 x4 x5 x6 x7 x8 x9 x10):aaE p
inductive Ww {A0 A1 A2 A3 A4 A5 A6 A7 A8 A9 A10 A11 A12 A13:Type} (p:A0→A1→A2→A3→A4→A5→A6→A7→A8→A9→A10→A11→A12→A13→Prop):Prop | mk (x0:A0) (x1:A1) (x2:A2) (x3:A3) (x4:A4) (x5:A5) (x6:A6) (x7:A7) (x8:A8) (x9:A9) (x10:A10) (x11:A11) (x12:A12) (x13:A13) (h:p x0 x1 x2 x3 x4 x5 x6 x7 x8 x9 x10 x11 x12 x13):Ww p
abbrev Hp:=Addr→Option HO
def w4 (h:Heap) (a:Addr) (items:Array Value):Prop:=∃ o,h.get? a=some o∧(o.cls,o.dict)=(Value.type "tuple",none)∧∃ n,o.data=.seq items n
theorem w4.up {h:Heap}{a:Addr}{items:Array Value} (x:w4 h a items):IsTup h a items:=let ⟨o,e,c,n⟩:=x;⟨o,e,(aV c).1,n⟩
theorem w4.lt {h:Heap}{a:Addr}{items:Array Value} (x:w4 h a items):a < h.objs.size:=x.up.lt
theorem w4.new (h:Heap) (items:Array Value):w4 (h.push { cls:=.type "tuple",data:=.seq items }) h.objs.size items:=⟨_,Heap.get?_push_size _ rfl,rfl,_,rfl⟩
def upd (H:Hp) (a:Addr) (o:HO):Hp:=fun b=>if b=a then some o else H b
theorem aE {H:Hp}{a:Addr}{o:HO}:upd H a o a=some o:=by unfold upd;rw[if_pos rfl]
theorem aN {H:Hp}{a b:Addr}{o:HO} (h:b≠a):upd H a o b=H b:=by unfold upd;rw[if_neg h]
theorem cu {H:Hp}{a b:Addr}{o u:HO} (h:H a=some o) (h':H b=some u) (d:o≠u):a≠b:=by
 intro e;subst e;rw[h] at h';exact d (aa h')
theorem bf {H:Hp}{a b:Addr}{o:HO} (h:H a=some o) (h':H b=none):a≠b:=by
 intro e;subst e;rw[h] at h';cases h'
section
variable (P:Program) (w:World)
def i5 (H:Hp) (h:Heap) (a:Addr):HO→Prop
 | .lst xs=>xs.length≤sizeLine∧∃ (its:List Value) (n:Nat),Vals xs its∧h.get? a=some { cls:=.type "list",data:=.seq its.toArray n }
 | .tup xs=>xs.length≤sizeLine∧∃ its:List Value,Vals xs its∧w4 h a its.toArray
 | .dK kvs=>kvs.length≤sizeLine∧(a == sysModules)=false∧∃ vs,KV kvs vs∧h.DictOf (da P w) a vs
 | .dT kvs=>kvs.length≤sizeLine∧(a == sysModules)=false∧∃ xs:List (List Key×Addr×Value),
  Paired (fun(p:List Key×V) (q:List Key×Addr×Value)=>p.1=q.1∧H q.2.1=some (.tup (p.1.map kV))∧RelV p.2 q.2.2) kvs xs∧
  ∃ o es ep,h.get? a=some o∧o.ExactDict∧o.data=.dict es ep∧es.toList=xs.map (entryOfKey (tupleKind (da P w)))∧(xs.map (·.1)).Nodup
 | .set S n=>h.SetOf (intKind P w) a S n
 | .ins C dx fs=>H dx=some (.own a)∧fs.length≤1000∧dx≠a∧h.get? a=some (iU C dx)∧
  ∃ mA,h.Ns1 dx mA∧(∀ f,xP (fs.lookup f) (mA f))∧PySem.Within mA (fs.map (·.1))
 | .own _=>∃ o,h.get? a=some o
 | .xd fs=>∃ mA,h.Ns1 a mA∧∀ f,xP (fs.lookup f) (mA f)
 | .rng lo hi=>∃ t u v,h.get? a=some { cls:=.type "range",data:=.fields #[.int lo t,.int hi u,.int 1 v] }
 | .frz o u=>h.get? a=some o∧i5 H h a u
 | .tbl ps=>h.get? a=some { cls:=.none,data:=.fields ps }
 | .met f x=>h.get? a=some (DV (.ref f) (.ref x))
 | .ext φ=>φ h∧(∃ o,h.get? a=some o)∧∀ h1 h2:Heap,φ h1→(∀ o,h1.get? a=some o→h2.get? a=some o)→φ h2
def HOk (H:Hp) (h:Heap):Prop:=∀ a o,H a=some o→i5 P w H h a o
end
section
variable {P:Program}{w:World}{H H':Hp}{h h':Heap}{a:Addr}{o:HO}
theorem i5.lt (x:i5 P w H h a o):a < h.objs.size:=by
 cases o with
 | lst xs=>obtain⟨_,_,_,_,e⟩:=x;exact Heap.lt_size e
 | tup xs=>obtain⟨_,_,_,p⟩:=x;exact p.lt
 | dK kvs=>obtain⟨_,_,_,_,o,_,_,e,_⟩:=x;exact Heap.lt_size e
 | dT kvs=>obtain⟨_,_,_,_,o,_,_,e,_⟩:=x;exact Heap.lt_size e
 | set S n=>obtain⟨o,_,_,_,e,_⟩:=x;exact Heap.lt_size e
 | ins C dx fs=>obtain⟨_,_,_,e,_⟩:=x;exact Heap.lt_size e
 | own y=>obtain⟨_,e⟩:=x;exact Heap.lt_size e
 | xd fs=>obtain⟨_,⟨_,_,_,e,_⟩,_⟩:=x;exact Heap.lt_size e
 | rng lo hi=>obtain⟨_,_,_,e⟩:=x;exact Heap.lt_size e
 | frz ob u=>obtain⟨e,_⟩:=x;exact Heap.lt_size e
 | tbl ps=>exact Heap.lt_size (show h.get? a=some _ from x)
 | met f y=>exact Heap.lt_size (show h.get? a=some _ from x)
 | ext φ=>obtain⟨_,⟨_,e⟩,_⟩:=x;exact Heap.lt_size e
theorem Paired.VX {α β:Type}{F G:α→β→Prop}:∀ {l₁:List α}{l₂:List β},Paired F l₁ l₂→(∀ a b,F a b→G a b)→Paired G l₁ l₂
 | _,_,.nil,_=>.nil
 | _,_,.cons r t,f=>.cons (f _ _ r) (Paired.VX t f)
theorem i5.L0 (x:i5 P w H h a o) (k:∀ b u,(b=a∨H b=some (.own a))→h.get? b=some u→h'.get? b=some u)
 (ho:∀ b,H b=some (.own a)→H' b=some (.own a)) (ht:∀ b xs,H b=some (.tup xs)→H' b=some (.tup xs)):i5 P w H' h' a o:=by
 induction o with
 | lst xs=>obtain⟨z,its,n,r,e⟩:=x;exact⟨z,its,n,r,k _ _ (.inl rfl) e⟩
 | tup xs=>obtain⟨z,its,r,ob,e,c⟩:=x;exact⟨z,its,r,ob,k _ _ (.inl rfl) e,c⟩
 | dK kvs=>obtain⟨z,y,vs,r,ob,es,ep,e,c⟩:=x;exact⟨z,y,vs,r,ob,es,ep,k _ _ (.inl rfl) e,c⟩
 | dT kvs=>
   obtain⟨z,y,xs,r,ob,es,ep,e,c⟩:=x
   exact⟨z,y,xs,Paired.VX r fun p q z=>⟨z.1,ht _ _ z.2.1,z.2.2⟩,ob,es,ep,k _ _ (.inl rfl) e,c⟩
 | set S n=>obtain⟨ob,es,ep,t,e,c⟩:=x;exact⟨ob,es,ep,t,k _ _ (.inl rfl) e,c⟩
 | ins C dx fs=>
   obtain⟨d,z,ne,e,mA,⟨od,es,ep,e2,c⟩,r⟩:=x
   exact⟨ho _ d,z,ne,k _ _ (.inl rfl) e,mA,⟨od,es,ep,k _ _ (.inr d) e2,c⟩,r⟩
 | own y=>obtain⟨ob,e⟩:=x;exact⟨ob,k _ _ (.inl rfl) e⟩
 | xd fs=>obtain⟨mA,⟨od,es,ep,e,c⟩,r⟩:=x;exact⟨mA,⟨od,es,ep,k _ _ (.inl rfl) e,c⟩,r⟩
 | rng lo hi=>obtain⟨t,u,v,e⟩:=x;exact⟨t,u,v,k _ _ (.inl rfl) e⟩
 | frz ob u ih=>obtain⟨e,q⟩:=x;exact⟨k _ _ (.inl rfl) e,ih q⟩
 | tbl ps=>
   have e:h.get? a=some { cls:=.none,data:=.fields ps }:=x
   show h'.get? a=some { cls:=.none,data:=.fields ps }
   exact k a _ (.inl rfl) e
 | met f y=>
   have e:h.get? a=some (DV (.ref f) (.ref y)):=x
   show h'.get? a=some (DV (.ref f) (.ref y))
   exact k a _ (.inl rfl) e
 | ext φ=>obtain⟨p,⟨o,e⟩,st⟩:=x;exact⟨st _ _ p fun o q=>k _ _ (.inl rfl) q,⟨o,k _ _ (.inl rfl) e⟩,st⟩
theorem HOk.lt (x:HOk P w H h) (e:H a=some o):a < h.objs.size:=(x a o e).lt
theorem HOk.fresh (x:HOk P w H h) (e:h.objs.size≤a):H a=none:=by
 cases q:H a with
 | none=>rfl
 | some u=>exact absurd (b7 (x.lt q) e) (hG _)
theorem HOk.kept (x:HOk P w H h) (k:∀ b u,h.get? b=some u→h'.get? b=some u):HOk P w H h':=fun a o e=>
 (x a o e).L0 (fun b u _ q=>k b u q) (fun _ q=>q) fun _ _ q=>q
theorem HOk.laid (x:HOk P w H h) (k:∀ b u,h.get? b=some u→h'.get? b=some u) (hp:h.objs.size≤a) (new:i5 P w (upd H a o) h' a o):HOk P w (upd H a o) h':=fun b u e=>by
 have hn:=x.fresh hp
 by_cases hb:b=a
 ·subst hb;rw[aE] at e;cases e;exact new
 ·rw[aN hb] at e
  exact(x b u e).L0 (fun c v _ q=>k c v q) (fun c q=>by rw[aN (bf q hn)];exact q) fun c xs q=>by rw[aN (bf q hn)];exact q
end
def Rd (H:Hp) (a:Addr) (u:HO):Prop:=H a=some u∨∃ o,H a=some (.frz o u)
theorem Rd.ok {P:Program}{w:World}{H:Hp}{h:Heap}{a:Addr}{u:HO} (r:Rd H a u) (x:HOk P w H h):i5 P w H h a u:=by
 rcases r with r | ⟨o,r⟩
 ·exact x a u r
 ·obtain⟨_,q⟩:=x a _ r
  exact q
def Mut:Option HO→Prop
 | some (.lst _)=>True
 | some (.dK _)=>True
 | some (.dT _)=>True
 | some (.set _ _)=>True
 | some (.ins _ _ _)=>True
 | some (.ext _)=>True
 | _=>False
section
variable {P:Program}{w:World}{H:Hp}{h h':Heap}{x e:Addr}{o':HO}
theorem HOk.write (ok:HOk P w H h) (mu:Mut (H x)) (he:e=x∨H e=some (.own x)) (k:∀ b u,b≠e→h.get? b=some u→h'.get? b=some u) (heo:∃ u,h'.get? e=some u)
 (new:i5 P w (upd H x o') h' x o'):HOk P w (upd H x o') h':=fun b u q=>by
 have Zb:∀ c y,H c=some (.own y)→c≠x:=fun c y r z=>by subst z;rw[r] at mu;exact mu
 have ab2:∀ c xs,H c=some (.tup xs)→c≠x:=fun c xs r z=>by subst z;rw[r] at mu;exact mu
 by_cases hb:b=x
 ·subst hb;rw[aE] at q;cases q;exact new
 ·rw[aN hb] at q
  by_cases hbe:b=e
  ·have q':H b=some (.own x):=by
    rcases he with z | z
    ·exact absurd (hbe.trans z) hb
    ·rw[hbe];exact z
   rw[q] at q';cases q'
   obtain⟨v,hv⟩:=heo
   exact⟨v,by rw[hbe];exact hv⟩
  ·refine(ok b u q).L0 (fun c v hc r=>k c v ?_ r) (fun c r=>by rw[aN (Zb c b r)];exact r) fun c xs r=>by rw[aN (ab2 c xs r)];exact r
   rcases hc with rfl | hc
   ·exact hbe
   ·rintro rfl
    rcases he with z | z
    ·exact Zb c b hc z
    ·rw[hc] at z;cases z;exact hb rfl
end
structure Un (fs ex:List Addr) (H H':Hp) (h h':Heap):Prop where
 keep:∀ b o,h.get? b=some o→H b=none→b∉fs→b∉ex→h'.get? b=some o
 slot:∀ b o,h.get? b=some o→H b=none→b∈fs→b∉ex→∃ sl,h'.get? b=some { o with slots:=sl }
 free:∀ b o,h.get? b=some o→H b=none→b∉ex→H' b=none
 there:∀ b o,h.get? b=some o→b∉ex→∃ o',h'.get? b=some o'
 D2:∀ b xs,H b=some (.tup xs)→H' b=some (.tup xs)
 BG:∀ b o u,H b=some (.frz o u)→H' b=some (.frz o u)
 D6:∀ b ps,H b=some (.tbl ps)→∃ more,H' b=some (.tbl (ps++more))
section
variable {fs fs' ex ex':List Addr}{H H1 H2:Hp}{h h1 h2 h':Heap}{a x e:Addr}{o:HO}
theorem Un.any (u:Un fs ex H H1 h h1) {b:Addr}{ob:Obj} (q:h.get? b=some ob) (n:H b=none) (hx:b∉ex):∃ sl,h1.get? b=some { ob with slots:=sl }:=by
 by_cases hb:b∈fs
 ·exact u.slot b ob q n hb hx
 ·exact⟨ob.slots,u.keep b ob q n hb hx⟩
theorem Un.kept (k:∀ b u,h.get? b=some u→h'.get? b=some u):Un fs ex H H h h':=
 ⟨fun b ob q _ _ _=>k b ob q,fun b ob q _ _ _=>⟨ob.slots,k b ob q⟩,fun _ _ _ n _=>n,fun b ob q _=>⟨ob,k b ob q⟩,fun _ _ q=>q,fun _ _ _ q=>q,fun _ ps q=>⟨#[],by rw[q];simp⟩⟩
theorem Un.refl:Un fs ex H H h h:=Un.kept fun _ _ q=>q
theorem Un.laid (k:∀ b u,h.get? b=some u→h'.get? b=some u) (hp:h.objs.size≤a) (hn:H a=none):Un fs ex H (upd H a o) h h' where
 keep:=fun b u q _ _ _=>k b u q
 slot:=fun b u q _ _ _=>⟨u.slots,k b u q⟩
 free:=fun b u q n _=>by rw[aN (bV (b7 (Heap.lt_size q) hp))];exact n
 there:=fun b u q _=>⟨u,k b u q⟩
 D2:=fun b xs q=>by rw[aN (bf q hn)];exact q
 BG:=fun b u xs q=>by rw[aN (bf q hn)];exact q
 D6:=fun b ps q=>⟨#[],by rw[aN (bf q hn),q];simp⟩
theorem Un.write (mu:Mut (H x)) (he:e=x∨H e=some (.own x)) (k:∀ b u,b≠e→h.get? b=some u→h'.get? b=some u) (heo:∃ u,h'.get? e=some u):Un fs ex H (upd H x o) h h':=by
 have hx:∀ b,H b=none→b≠x:=fun b n z=>by subst z;rw[n] at mu;exact mu
 have hb:∀ b,H b=none→b≠e:=fun b n z=>by
  subst z
  rcases he with r | r
  ·exact hx b n r
  ·rw[n] at r;cases r
 have hm:∀ b u,H b=some u→¬ Mut (some u)→b≠x:=fun b u q nm z=>by subst z;rw[q] at mu;exact nm mu
 refine⟨fun b u q n _ _=>k b u (hb b n) q,fun b u q n _ _=>⟨u.slots,k b u (hb b n) q⟩,fun b u q n _=>by rw[aN (hx b n)];exact n,fun b u q _=>?_,
  fun b xs q=>by rw[aN (hm b _ q fun z=>z)];exact q,fun b u xs q=>by rw[aN (hm b _ q fun z=>z)];exact q,fun b ps q=>⟨#[],by rw[aN (hm b _ q fun z=>z),q];simp⟩⟩
 by_cases hbe:b=e
 ·subst hbe;exact heo
 ·exact⟨u,k b u hbe q⟩
end
def trk (h:Heap) (H:Hp):List Addr:=(bS h.objs.size).filter fun a=>(H a).isSome
def MR (h:Heap) (H:Hp):Heap:=xW h (trk h H)
theorem Su (h:Heap) (H:Hp):(MR h H).objs.size=h.objs.size:=PySem.W.hideAll_size _ _
theorem UD {h:Heap}{H:Hp}{b:Addr}{o:Obj} (e:h.get? b=some o) (n:H b=none):(MR h H).get? b=some o:=
 sk _ e fun hm=>by
  have q:(H b).isSome=true:=(eL.mp hm).2
  rw[n] at q;simp at q
theorem VR {h:Heap}{H:Hp}{b:Addr}{o:Obj} (e:(MR h H).get? b=some o):h.get? b=some o∧H b=none:=by
 have e':h.get? b=some o:=PySem.W.of_hideAll (trk h H) e
 refine⟨e',?_⟩
 cases q:H b with
 | none=>rfl
 | some x=>
   have hm:b∈trk h H:=eL.mpr ⟨hX.mpr (Heap.lt_size e'),by simp[q]⟩
   have z:(MR h H).get? b=none:=PySem.W.hideAll_none (trk h H) hm
   rw[z] at e;cases e
end L2
namespace L2
open PySem PySem.Spec PyProof.Rows
structure Mod (K:ai) (mg:Str→Option Value) (base:Heap):Prop where
 kin:K.In base
 glob:base.Ns mainGlobals mg
 blt:∃ mb,base.Ns builtinsNs mb∧∀ x:Str,x≠"__name__"→mb x=bootBuiltins x
 nolimit:base.NoLimit
structure Cx where
 prog:Program
 w:World
 K:ai
 mg:Str→Option Value
 base:Heap
 A:Around
 N:List Str
 s_0:Shared
 H_0:Hp
 env:Env
 outer:List Env
 stack:List Env
 ex:List Addr
 fn:Str→Bool
 calm:Bool
 pn:List (Addr×Obj)
 xe:Value→Shared→Prop
def frs (l:List Env):List Addr:=l.filterMap (·.frame)
abbrev Cx.fs (X:Cx):List Addr:=frs X.outer
def Vis (sc:Scope) (x:Str):Prop:=sc.names.lookup x=some .local∨sc.names.lookup x=some .cell∨sc.names.lookup x=some .free
def Loc (sc:Scope) (x:Str):Prop:=sc.names.lookup x=some .local∨sc.names.lookup x=some .cell
def Look (env:Env) (h:Heap) (m:Str→Option Value) (x:Str) (u:Value):Prop:=
 (env.kindOf x=some .local∧m x=some u)∨((env.kindOf x=some .cell∨env.kindOf x=some .free)∧∃ c,env.cells.lookup x=some c∧h.IsCell c (some u))
structure Cx.Ok (X:Cx):Prop where
 mod:Mod X.K X.mg X.base
 kind:X.env.scope.kind=.function
 glob:X.env.globals=mainGlobals
 blt:X.env.builtins=builtinsNs
 above:X.s_0.heap.objs.size≤X.env.locals
 inj:∀ x y c,X.env.cells.lookup x=some c→X.env.cells.lookup y=some c→x=y
 has:∀ x,(X.env.kindOf x=some .cell∨X.env.kindOf x=some .free)→∃ c,X.env.cells.lookup x=some c
 cab:∀ x c,X.fn x=true→X.env.cells.lookup x=some c→X.s_0.heap.objs.size≤c
 hd:X.calm=true→X.A.handled=none
 frames:X.A.frames=some X.stack
 stk:X.stack=X.outer∨(X.stack=X.env::X.outer∧X.env.frame=some X.env.locals)
 exf:∀ b∈X.ex,b≠X.env.locals∧∀ x c,X.env.cells.lookup x=some c→c≠b
 bs:∀ b o,X.base.get? b=some o→X.s_0.heap.get? b=some o∧X.H_0 b=none
 bsz:X.base.objs.size≤X.s_0.heap.objs.size
 Oh:∀ b o,X.base.get? b=some o→b∉X.ex
 O3:∀ b∈X.ex,b∉X.fs
 BF:X.s_0.heap.FunFrames X.base X.outer
 frf:∀ b∈X.fs,X.H_0 b=none
structure Inv (X:Cx) (pins:List (Addr×Obj)) (σ:List (Option V)) (H:Hp) (s:Shared):Prop where
 ok:X.Ok
 os:s.os=X.s_0.os
 bare:AllBare s.gens
 base:Un X.fs X.ex X.H_0 H X.s_0.heap s.heap
 loc:∃ m,s.heap.Ns X.env.locals m∧∀ (i:Nat) (x:Str) (v:V),X.N[i]?=some x→σ[i]?=some (some v)→Vis X.env.scope x→∃ u,RelV v u∧Look X.env s.heap m x u
 cell:∀ x c,X.env.cells.lookup x=some c→∃ v,s.heap.IsCell c v
 free:H X.env.locals=none
 rG:∀ x c,X.env.cells.lookup x=some c→H c=none
 pin:∀ p∈X.pn++pins,s.heap.get? p.1=some p.2∧H p.1=none∧p.1≠X.env.locals∧p.1∉X.fs∧∀ v,p.2.data≠.cell v
 hok:HOk X.prog X.w H s.heap
 len:σ.length=X.N.length
section
variable {X:Cx}{pins:List (Addr×Obj)}{σ:List (Option V)}{H H':Hp}{s:Shared}{h':Heap}
theorem Cx.Ok.ab4 (ok:X.Ok) {b:Addr}{o:Obj} (e:X.base.get? b=some o):b∉X.fs:=fun hb=>by
 have:=(ok.BF.mem hb).1
 rw[e] at this;cases this
theorem Inv.bs (I:Inv X pins σ H s):∀ b o,X.base.get? b=some o→s.heap.get? b=some o∧H b=none:=fun b o e=>
 ⟨I.base.keep b o (I.ok.bs b o e).1 (I.ok.bs b o e).2 (I.ok.ab4 e) (I.ok.Oh b o e),I.base.free b o (I.ok.bs b o e).1 (I.ok.bs b o e).2 (I.ok.Oh b o e)⟩
theorem Inv.bk (I:Inv X pins σ H s):∀ b o,X.base.get? b=some o→s.heap.get? b=some o:=fun b o e=>(I.bs b o e).1
theorem Inv.mod (I:Inv X pins σ H s):Mod X.K X.mg X.base:=I.ok.mod
theorem Inv.kIn (I:Inv X pins σ H s):X.K.In s.heap:=I.ok.mod.kin.keeps I.bk
theorem Inv.fr (I:Inv X pins σ H s):∃ m,Fr X.base X.env.locals s.heap m:=
 let ⟨m,hn,_⟩:=I.loc
 ⟨m,hn,I.bk,bP I.ok.bsz I.ok.above⟩
theorem Inv.lt (I:Inv X pins σ H s):X.env.locals < s.heap.objs.size:=let ⟨_,hn,_⟩:=I.loc;hn.lt
theorem Inv.sz (I:Inv X pins σ H s):X.s_0.heap.objs.size≤s.heap.objs.size:=bP I.ok.above (jd I.lt)
theorem Inv.ab3 (I:Inv X pins σ H s) {a:Addr} (h:s.heap.objs.size≤a):a∉X.fs:=fun hb=>by
 obtain⟨_,o,ho,_⟩:=I.ok.BF.mem hb
 exact absurd (b7 (Heap.lt_size ho) (bP I.sz h)) (hG _)
theorem Inv.cne (I:Inv X pins σ H s):∀ x c,X.env.cells.lookup x=some c→c≠X.env.locals:=fun x c e z=>by
 obtain⟨v,o,ho,hd⟩:=I.cell x c e
 obtain⟨m,⟨o',es,ep,ho',hd',_⟩,_⟩:=I.loc
 rw[z,ho'] at ho;cases ho;rw[hd'] at hd;cases hd
theorem Inv.BF (I:Inv X pins σ H s):s.heap.FunFrames X.base X.outer:=by
 have all:∀ (l:List Env),(∀ b∈frs l,b∈X.fs)→X.s_0.heap.FunFrames X.base l→s.heap.FunFrames X.base l:=by
  intro l
  induction l with
  | nil=>intro _ _;trivial
  | cons env r ih=>
    intro hs hl
    obtain⟨hk,⟨L,o,hf,hn,ho,hd⟩,hr⟩:=hl
    have hL:L∈X.fs:=hs L (by unfold frs;rw[cF,hf];exact aI)
    obtain⟨sl,e⟩:=I.base.slot L o ho (I.ok.frf L hL) hL fun z=>I.ok.O3 L z hL
    exact⟨hk,⟨L,_,hf,hn,e,hd⟩,ih (fun b hb=>hs b (by unfold frs;rw[cF,hf];exact aG _ hb)) hr⟩
 exact all X.outer (fun _ hb=>hb) I.ok.BF
theorem Inv.stack (I:Inv X pins σ H s):s.heap.FunFrames X.base X.stack:=by
 rcases I.ok.stk with e | ⟨e,hf⟩
 ·rw[e];exact I.BF
 ·rw[e]
  obtain⟨m,hn,_⟩:=I.loc
  refine .cons (by rw[I.ok.kind];decide) hf hn ?_ I.BF
  exact Heap.get?_none_of_le (bP I.ok.bsz I.ok.above)
theorem Inv.LY (I:Inv X pins σ H s):∀ b∈frs X.stack,b∈X.env.locals::X.fs:=fun b hb=>by
 rcases I.ok.stk with e | ⟨e,hf⟩
 ·rw[e] at hb;exact aG _ hb
 ·rw[e] at hb
  unfold frs at hb
  rw[cF,hf] at hb
  exact hb
theorem Inv.LZ (I:Inv X pins σ H s):∀ b∈frs X.stack,H b=none:=fun b hb=>by
 rcases aC.mp (I.LY b hb) with e | hb
 ·rw[e];exact I.free
 ·obtain⟨_,o,ho,_⟩:=I.ok.BF.mem hb
  exact I.base.free b o ho (I.ok.frf b hb) fun z=>I.ok.O3 b z hb
theorem Inv.step {g':Array GenState}{t':Nat}{d':Drawn}{ch:List Addr} (I:Inv X pins σ H s)
 (hch:∀ b∈ch,(b∈X.ex∨X.s_0.heap.objs.size≤b)∧b≠X.env.locals∧(∀ x c,X.env.cells.lookup x=some c→c≠b)∧∀ p∈X.pn++pins,p.1≠b)
 (keep:∀ b o,b≠X.env.locals→b∉X.fs→b∉ch→s.heap.get? b=some o→H b=none→h'.get? b=some o)
 (slot:∀ b o,b≠X.env.locals→b∈X.fs→b∉ch→s.heap.get? b=some o→H b=none→∃ sl,h'.get? b=some { o with slots:=sl }) (free:∀ b o,b∉ch→s.heap.get? b=some o→H b=none→H' b=none)
 (there:∀ b o,b∉ch→s.heap.get? b=some o→∃ o',h'.get? b=some o')
 (D2:∀ b xs,H b=some (.tup xs)→H' b=some (.tup xs)) (BG:∀ b o u,H b=some (.frz o u)→H' b=some (.frz o u)) (D6:∀ b ps,H b=some (.tbl ps)→∃ more,H' b=some (.tbl (ps++more)))
 (ns:∀ m,s.heap.Ns X.env.locals m→h'.Ns X.env.locals m) (hok:HOk X.prog X.w H' h') (hg:AllBare g'):
 Inv X pins σ H' { s with heap:=h',gens:=g',drawn:=d',toks:=t' }:=by
 have neL:∀ b o,X.s_0.heap.get? b=some o→b≠X.env.locals:=fun b o e=>bV (b7 (Heap.lt_size e) I.ok.above)
 have neC:∀ b o,X.s_0.heap.get? b=some o→b∉X.ex→b∉ch:=fun b o e hx hb=>by
  rcases (hch b hb).1 with z | z
  ·exact hx z
  ·exact absurd (b7 (Heap.lt_size e) z) (hG _)
 have cellK:∀ x c,X.env.cells.lookup x=some c→∀ v,s.heap.IsCell c v→h'.IsCell c v:=fun x c e v ⟨o,ho,hd⟩=>by
  have nch:c∉ch:=fun z=>(hch c z).2.2.1 x c e rfl
  by_cases hc:c∈X.fs
  ·obtain⟨sl,q⟩:=slot c o (I.cne x c e) hc nch ho (I.rG x c e)
   exact⟨_,q,hd⟩
  ·exact⟨o,keep c o (I.cne x c e) hc nch ho (I.rG x c e),hd⟩
 refine⟨I.ok,I.os,hg,⟨fun b o e n hb hx=>?_,fun b o e n hb hx=>?_,fun b o e n hx=>?_,fun b o e hx=>?_,fun b xs e=>D2 b xs (I.base.D2 b xs e),fun b o xs e=>BG b o xs (I.base.BG b o xs e),fun b ps e=>?_⟩,?_,fun x c e=>?_,?_,fun x c e=>?_,fun p hp=>?_,hok,I.len⟩
 ·exact keep b o (neL b o e) hb (neC b o e hx) (I.base.keep b o e n hb hx) (I.base.free b o e n hx)
 ·obtain⟨sl,e1⟩:=I.base.slot b o e n hb hx
  obtain⟨sl',e2⟩:=slot b _ (neL b o e) hb (neC b o e hx) e1 (I.base.free b o e n hx)
  exact⟨sl',e2⟩
 ·obtain⟨o',e1⟩:=I.base.there b o e hx
  exact free b o' (neC b o e hx) e1 (I.base.free b o e n hx)
 ·obtain⟨o',e1⟩:=I.base.there b o e hx
  exact there b o' (neC b o e hx) e1
 ·obtain⟨m1,e1⟩:=I.base.D6 b ps e
  obtain⟨m2,e2⟩:=D6 b _ e1
  exact⟨m1++m2,by rw[e2,Array.append_assoc]⟩
 ·obtain⟨m,hn,hl⟩:=I.loc
  refine⟨m,ns m hn,fun i x v e1 e2 e3=>?_⟩
  obtain⟨u,r,l⟩:=hl i x v e1 e2 e3
  refine⟨u,r,?_⟩
  rcases l with l | ⟨k,c,e,z⟩
  ·exact .inl l
  ·exact .inr ⟨k,c,e,cellK x c e _ z⟩
 ·obtain⟨v,z⟩:=I.cell x c e
  exact⟨v,cellK x c e v z⟩
 ·obtain⟨m,⟨o,_,_,ho,_⟩,_⟩:=I.loc
  exact free _ o (fun z=>(hch _ z).2.1 rfl) ho I.free
 ·obtain⟨v,o,ho,hd⟩:=I.cell x c e
  exact free c o (fun z=>(hch c z).2.2.1 x c e rfl) ho (I.rG x c e)
 ·obtain⟨e,n,ne,nf,d⟩:=I.pin p hp
  have nch:p.1∉ch:=fun z=>(hch p.1 z).2.2.2 p hp rfl
  exact⟨keep p.1 p.2 ne nf nch e n,free p.1 p.2 nch e n,ne,nf,d⟩
theorem Inv.un {t':Nat} (I:Inv X pins σ H s) (u:Un X.fs [] H H' s.heap h') (hok:HOk X.prog X.w H' h'):Inv X pins σ H' { s with heap:=h',toks:=t' }:=by
 obtain⟨m,⟨o,es,ep,ho,r⟩,_⟩:=id I.loc
 obtain⟨sl,hL⟩:=u.any ho I.free (by simp)
 exact I.step (g':=s.gens) (d':=s.drawn) (ch:=[]) (fun _ z=>nomatch z) (fun b o _ hb _ e n=>u.keep b o e n hb (by simp)) (fun b o _ hb _ e n=>u.slot b o e n hb (by simp)) (fun b o _ e n=>u.free b o e n (by simp)) (fun b o _ e=>u.there b o e (by simp)) u.D2 u.BG u.D6 (fun m' hm=>by
  obtain⟨o',es',ep',ho',r'⟩:=hm
  rw[ho] at ho';cases ho'
  exact⟨_,es',ep',hL,r'⟩) hok I.bare
theorem Inv.call {g':Array GenState}{t':Nat}{d':Drawn}{ch:List Addr} (I:Inv X pins σ H s) (u:Un (frs X.stack) ch H H' s.heap h') (hok:HOk X.prog X.w H' h') (hg:AllBare g')
 (hch:∀ b∈ch,(b∈X.ex∨X.s_0.heap.objs.size≤b)∧b≠X.env.locals∧(∀ x c,X.env.cells.lookup x=some c→c≠b)∧∀ p∈X.pn++pins,p.1≠b):
 Inv X pins σ H' { s with heap:=h',gens:=g',drawn:=d',toks:=t' }:=by
 obtain⟨m,⟨o,es,ep,ho,r⟩,_⟩:=id I.loc
 obtain⟨sl,hL⟩:=u.any ho I.free fun z=>(hch _ z).2.1 rfl
 exact I.step (ch:=ch) hch (fun b o hL hb hc e n=>u.keep b o e n (fun z=>(aC.mp (I.LY b z)).elim hL hb) hc) (fun b o _ _ hc e n=>u.any e n hc) (fun b o hc e n=>u.free b o e n hc) (fun b o hc e=>u.there b o e hc) u.D2 u.BG u.D6 (fun m' hm=>by
  obtain⟨o',es',ep',ho',r'⟩:=hm
  rw[ho] at ho';cases ho'
  exact⟨_,es',ep',hL,r'⟩) hok hg
theorem Inv.turned {t':Nat}{it:Addr} (I:Inv X pins σ H s) (k:∀ b o,b≠it→s.heap.get? b=some o→h'.get? b=some o) (hn:H it=none) (hL:it≠X.env.locals)
 (h1:it∈X.ex∨X.s_0.heap.objs.size≤it) (h2:∀ x c,X.env.cells.lookup x=some c→c≠it) (h3:∀ p∈X.pn++pins,p.1≠it):Inv X pins σ H { s with heap:=h',toks:=t' }:=by
 have nit:∀ b u,H b=some u→b≠it:=fun b u e z=>by rw[z,hn] at e;cases e
 refine I.step (g':=s.gens) (d':=s.drawn) (ch:=[it]) (fun b hb=>?_) (fun b o _ _ hc e _=>k b o (fun z=>hc (by simp[z])) e) (fun b o _ _ hc e _=>⟨o.slots,k b o (fun z=>hc (by simp[z])) e⟩) (fun _ _ _ _ n=>n)
  (fun b o hc e=>⟨o,k b o (fun z=>hc (by simp[z])) e⟩) (fun _ _ e=>e) (fun _ _ _ e=>e) (fun b ps e=>⟨#[],by rw[e];simp⟩) (fun m hm=>?_) (fun b u e=>?_) I.bare
 ·have e:b=it:=by simpa using hb
  subst e
  exact⟨h1,hL,h2,h3⟩
 ·obtain⟨o,es,ep,ho,r⟩:=hm
  exact⟨o,es,ep,k _ o (br hL) ho,r⟩
 ·refine(I.hok b u e).L0 (fun c v hc q=>k c v ?_ q) (fun _ q=>q) fun _ _ q=>q
  rcases hc with z | z
  ·rw[z];exact nit b u e
  ·exact nit c _ z
theorem Inv.tok (I:Inv X pins σ H s) (t:Nat):Inv X pins σ H { s with toks:=t }:=I.un (h':=s.heap) (t':=t) Un.refl I.hok
theorem Inv.kept {t':Nat} (I:Inv X pins σ H s) (k:∀ b u,s.heap.get? b=some u→h'.get? b=some u):Inv X pins σ H { s with heap:=h',toks:=t' }:=I.un (Un.kept k) (I.hok.kept k)
theorem Inv.laid {a:Addr}{o:HO}{t':Nat} (I:Inv X pins σ H s) (k:∀ b u,s.heap.get? b=some u→h'.get? b=some u) (hp:s.heap.objs.size≤a) (new:i5 X.prog X.w (upd H a o) h' a o):
 Inv X pins σ (upd H a o) { s with heap:=h',toks:=t' }:=I.un (Un.laid k hp (I.hok.fresh hp)) (I.hok.laid k hp new)
theorem Inv.write {x e:Addr}{o:HO}{t':Nat} (I:Inv X pins σ H s) (mu:Mut (H x)) (he:e=x∨H e=some (.own x)) (k:∀ b u,b≠e→s.heap.get? b=some u→h'.get? b=some u) (heo:∃ u,h'.get? e=some u)
 (new:i5 X.prog X.w (upd H x o) h' x o):Inv X pins σ (upd H x o) { s with heap:=h',toks:=t' }:=I.un (Un.write mu he k heo) (I.hok.write mu he k heo new)
theorem Inv.weak {σ':List (Option V)} (I:Inv X pins σ H s) (hl:σ'.length=σ.length) (w:∀ (i:Nat) v,σ'[i]?=some (some v)→σ[i]?=some (some v)):Inv X pins σ' H s:=
 ⟨I.ok,I.os,I.bare,I.base,let ⟨m,hn,hl'⟩:=I.loc;⟨m,hn,fun i x v e1 e2 e3=>hl' i x v e1 (w i v e2) e3⟩,I.cell,I.free,I.rG,I.pin,I.hok,hl.trans I.len⟩
theorem Inv.Rb {WJ:List (Addr×Obj)} (I:Inv X pins σ H s) (h:∀ p∈WJ,s.heap.get? p.1=some p.2∧H p.1=none∧p.1≠X.env.locals∧p.1∉X.fs∧∀ v,p.2.data≠.cell v):Inv X WJ σ H s:=
 ⟨I.ok,I.os,I.bare,I.base,I.loc,I.cell,I.free,I.rG,fun p hp=>(az.mp hp).elim (fun z=>I.pin p (aQ _ z)) (h p),I.hok,I.len⟩
theorem Ia {N:List Str} (hN:N.Nodup) {i j:Nat}{x:Str} (a:N[i]?=some x) (b:N[j]?=some x):i=j:=by
 obtain⟨h1,e1⟩:=aP.mp a
 obtain⟨h2,e2⟩:=aP.mp b
 exact(List.getElem_inj hN).mp (e1.trans e2.symm)
theorem KZ {M:Model}{A:Around}{E:Value→Shared→Prop}{i:Nat}{x:Str}{v:V}{u:Value}{Q:Unit→Shared→Prop} (I:Inv X pins σ H s) (hN:X.N.Nodup) (hi:X.N[i]?=some x) (hx:Loc X.env.scope x) (r:RelV v u)
 (h:∀ s',Inv X pins (σ.set i (some v)) H s'→(∃ a,Heap.SameBut a s.heap s'.heap∧(a=X.env.locals∨X.env.cells.lookup x=some a))→Q () s') (hf:X.fn x=true∨X.env.scope.names.lookup x=some .local:=by first | exact .inl rfl | exact .inr rfl | assumption):wpAny M A (storeName X.env x u) Q E s:=by
 obtain⟨m,hn,hl⟩:=id I.loc
 have acO:(X.env.scope.kind == .class || (X.env.scope.kind == .module && X.env.locals != X.env.globals))=false:=by rw[I.ok.kind];rfl
 have hiσ:i < σ.length:=by rw[I.len];exact(aP.mp hi).1
 have cne:=I.cne
 have tracked:∀ {a:Addr}{h':Heap},(∃ o,s.heap.get? a=some o∧H a=none)→Heap.SameBut a s.heap h'→HOk X.prog X.w H h':=fun {a h'} ha hs b ob e=>by
  obtain⟨_,_,Lo⟩:=ha
  refine(I.hok b ob e).L0 (fun c w' hc q=>(hs.2 c ?_).trans q) (fun _ q=>q) fun _ _ q=>q
  rintro rfl
  rcases hc with rfl | hc
  ·rw[Lo] at e;cases e
  ·rw[Lo] at hc;cases hc
 rcases hx with hk | hk
 ·refine wpAny_storeName_local hk hn (fun h' hn' hs=>?_) acO
  obtain⟨oL,_,_,hoL,_⟩:=id hn
  refine h _ ⟨I.ok,I.os,I.bare,⟨fun b o e n hb hx=>?_,fun b o e n hb hx=>?_,I.base.free,fun b o e hx=>?_,I.base.D2,I.base.BG,I.base.D6⟩,⟨_,hn',fun j y v' e1 e2 e3=>?_⟩,fun y c e=>?_,I.free,I.rG,fun p hp=>?_,tracked ⟨oL,hoL,I.free⟩ hs,by simpa using I.len⟩ ⟨_,hs,.inl rfl⟩
  ·exact(hs.2 b (bV (b7 (Heap.lt_size e) I.ok.above))).trans (I.base.keep b o e n hb hx)
  ·obtain⟨sl,e1⟩:=I.base.slot b o e n hb hx
   exact⟨sl,(hs.2 b (bV (b7 (Heap.lt_size e) I.ok.above))).trans e1⟩
  ·obtain⟨o',e1⟩:=I.base.there b o e hx
   exact⟨o',(hs.2 b (bV (b7 (Heap.lt_size e) I.ok.above))).trans e1⟩
  ·by_cases hj:j=i
   ·subst hj
    rw[hi] at e1;cases e1
    rw[b5 hiσ] at e2
    cases e2
    exact⟨u,r,.inl ⟨hk,by simp⟩⟩
   ·rw[dj (br hj)] at e2
    obtain⟨u',r',q⟩:=hl j y v' e1 e2 e3
    refine⟨u',r',?_⟩
    rcases q with ⟨k,e⟩ | ⟨k,c,e,z⟩
    ·refine .inl ⟨k,?_⟩
     have:y≠x:=fun e=>hj (Ia hN e1 (e▸hi))
     simp[this,e]
    ·exact .inr ⟨k,c,e,z.sameBut hs (cne y c e)⟩
  ·obtain⟨w',z⟩:=I.cell y c e
   exact⟨w',z.sameBut hs (cne y c e)⟩
  ·obtain⟨e,n,ne,nf,d⟩:=I.pin p hp
   exact⟨(hs.2 p.1 ne).trans e,n,ne,nf,d⟩
 ·have hfn:X.fn x=true:=by
   rcases hf with z | z
   ·exact z
   ·rw[z] at hk;cases hk
  obtain⟨c,hc⟩:=I.ok.has x (.inl hk)
  obtain⟨w',z⟩:=I.cell x c hc
  refine wpAny_storeName_cell I.ok.kind hk hc z (fun h' hc' hs=>?_)
  obtain⟨oc,hoc,acs⟩:=id z
  refine h { s with heap:=h' } ⟨I.ok,I.os,I.bare,⟨fun b o e n hb hx=>?_,fun b o e n hb hx=>?_,I.base.free,fun b o e hx=>?_,I.base.D2,I.base.BG,I.base.D6⟩,⟨m,hn.sameBut hs (br (cne x c hc)),fun j y v' e1 e2 e3=>?_⟩,fun y c' e=>?_,I.free,I.rG,fun p hp=>?_,tracked ⟨oc,hoc,I.rG x c hc⟩ hs,by simpa using I.len⟩ ⟨c,hs,.inr hc⟩
  ·exact(hs.2 b (bV (b7 (Heap.lt_size e) (I.ok.cab x c hfn hc)))).trans (I.base.keep b o e n hb hx)
  ·obtain⟨sl,e1⟩:=I.base.slot b o e n hb hx
   exact⟨sl,(hs.2 b (bV (b7 (Heap.lt_size e) (I.ok.cab x c hfn hc)))).trans e1⟩
  ·obtain⟨o',e1⟩:=I.base.there b o e hx
   exact⟨o',(hs.2 b (bV (b7 (Heap.lt_size e) (I.ok.cab x c hfn hc)))).trans e1⟩
  ·by_cases hj:j=i
   ·subst hj
    rw[hi] at e1;cases e1
    rw[b5 hiσ] at e2
    cases e2
    exact⟨u,r,.inr ⟨.inl hk,c,hc,hc'⟩⟩
   ·rw[dj (br hj)] at e2
    obtain⟨u',r',q⟩:=hl j y v' e1 e2 e3
    refine⟨u',r',?_⟩
    rcases q with q | ⟨k,c',e,z'⟩
    ·exact .inl q
    ·refine .inr ⟨k,c',e,z'.sameBut hs ?_⟩
     rintro rfl
     exact hj (Ia hN e1 (I.ok.inj _ _ _ e hc▸hi))
  ·by_cases hcc:c'=c
   ·subst hcc;exact⟨_,hc'⟩
   ·obtain⟨w2,z2⟩:=I.cell y c' e
    exact⟨w2,z2.sameBut hs hcc⟩
  ·obtain⟨e,n,ne,nf,d⟩:=I.pin p hp
   refine⟨(hs.2 p.1 ?_).trans e,n,ne,nf,d⟩
   intro q
   rw[q,hoc] at e
   have q':oc=p.2:=aa e
   exact d w' (by rw[← q'];exact acs)
theorem NP {M:Model}{A:Around}{E:Value→Shared→Prop}{i:Nat}{x:Str}{v:V}{u:Value}{Q:Unit→Shared→Prop} (I:Inv X pins σ H s) (hN:X.N.Nodup) (hi:X.N[i]?=some x) (hx:Loc X.env.scope x) (r:RelV v u)
 (h:∀ s',Inv X pins (σ.set i (some v)) H s'→Q () s') (hf:X.fn x=true∨X.env.scope.names.lookup x=some .local:=by first | exact .inl rfl | exact .inr rfl | assumption):wpAny M A (storeName X.env x u) Q E s:=
 KZ I hN hi hx r (fun s' I' _=>h s' I') hf
theorem Inv.U5 {s':Shared}{ch:List Addr} (I:Inv X pins σ H s) (ho:s'.os=s.os) (u:Un (frs X.stack) ch H H' s.heap s'.heap) (hok:HOk X.prog X.w H' s'.heap) (hg:AllBare s'.gens)
 (hch:∀ b∈ch,(b∈X.ex∨X.s_0.heap.objs.size≤b)∧b≠X.env.locals∧(∀ x c,X.env.cells.lookup x=some c→c≠b)∧∀ p∈X.pn++pins,p.1≠b):Inv X pins σ H' s':=by
 obtain⟨h',g',d',t',o'⟩:=s'
 have e:o'=s.os:=ho
 subst e
 exact I.call (g':=g') (t':=t') (d':=d') u hok hg hch
end
abbrev XK:=Value→Option Addr→Hp→Prop
abbrev St:=List (Option V)
abbrev VK:=V→Hp→Prop
abbrev TE:=St→Hp→VK→Prop
abbrev TT:=St→Hp→(Bool→Hp→Prop)→Prop
abbrev TA:=St→Hp→(List V→Hp→Prop)→Prop
structure Ends where
 nx:St→Hp→Prop
 rt:VK
 bk:St→Hp→Prop:=fun _ _=>False
 ct:St→Hp→Prop:=fun _ _=>False
abbrev TS:=Ends→St→Hp→Prop
def EP (X:Cx) (pins:List (Addr×Obj)) (σ:St) (Q:VK) (u:Value) (s':Shared):Prop:=∃ v H',Inv X pins σ H' s'∧RelV v u∧Q v H'
def TP (X:Cx) (pins:List (Addr×Obj)) (σ:St) (Q:Bool→Hp→Prop) (b:Bool) (s':Shared):Prop:=∃ H',Inv X pins σ H' s'∧Q b H'
def AP (X:Cx) (pins:List (Addr×Obj)) (σ:St) (Q:List V→Hp→Prop) (us:List Value) (s':Shared):Prop:=∃ vs H',Inv X pins σ H' s'∧Vals vs us∧Q vs H'
def SP (X:Cx) (pins:List (Addr×Obj)) (D:Ends) (f:Flow) (s':Shared):Prop:=
 match f with
 | .next=>∃ σ' H',Inv X pins σ' H' s'∧D.nx σ' H'
 | .brk=>∃ σ' H',Inv X pins σ' H' s'∧D.bk σ' H'
 | .cont=>∃ σ' H',Inv X pins σ' H' s'∧D.ct σ' H'
 | .ret u=>∃ v σ' H',Inv X pins σ' H' s'∧RelV v u∧D.rt v H'
def PE (X:Cx) (e:Expr) (t:TE):Prop:=
 ∀ (pins:List (Addr×Obj)) (s:Shared) (σ:St) (H:Hp) (Q:VK),Inv X pins σ H s→t σ H Q→wpAny (model X.prog X.w) X.A (eval e X.env) (EP X pins σ Q) X.xe s
def PT (X:Cx) (e:Expr) (t:TT):Prop:=
 ∀ (pins:List (Addr×Obj)) (s:Shared) (σ:St) (H:Hp) (Q:Bool→Hp→Prop),Inv X pins σ H s→t σ H Q→wpAny (model X.prog X.w) X.A (isTrue e X.env (eval e X.env)) (TP X pins σ Q) X.xe s
def PW (X:Cx) (e:Expr) (t:TT):Prop:=
 ∀ (whole:Sem Value) (pins:List (Addr×Obj)) (s:Shared) (σ:St) (H:Hp) (Q:Bool→Hp→Prop),Inv X pins σ H s→t σ H Q→wpAny (model X.prog X.w) X.A (isTrue e X.env whole) (TP X pins σ Q) X.xe s
theorem PW.pt {X:Cx}{e:Expr}{t:TT} (h:PW X e t):PT X e t:=h _
def PA (X:Cx) (es:List Expr) (t:TA):Prop:=
 ∀ (pos:Pos) (pins:List (Addr×Obj)) (s:Shared) (σ:St) (H:Hp) (Q:List V→Hp→Prop),Inv X pins σ H s→t σ H Q→wpAny (model X.prog X.w) X.A (spliced (backTo pos (starEach es X.env))) (AP X pins σ Q) X.xe s
def PS (X:Cx) (st:Stmt) (t:TS):Prop:=
 ∀ (pins:List (Addr×Obj)) (s:Shared) (σ:St) (H:Hp) (D:Ends),Inv X pins σ H s→t D σ H→wpAny (model X.prog X.w) X.A (exec st X.env) (SP X pins D) X.xe s
def PSs (X:Cx) (st:List Stmt) (t:TS):Prop:=
 ∀ (pins:List (Addr×Obj)) (s:Shared) (σ:St) (H:Hp) (D:Ends),Inv X pins σ H s→t D σ H→wpAny (model X.prog X.w) X.A (execs st X.env) (SP X pins D) X.xe s
theorem thn {α:Type}{t:Sem α}{Q Q':α→Shared→Prop}{M:Model}{A:Around}{E:Value→Shared→Prop}{s:Shared} (h:wpAny M A t Q E s) (hQ:∀ a s,Q a s→Q' a s):wpAny M A t Q' E s:=g8 h hQ fun _ _ x=>x
end L2
namespace L2
open PySem PySem.Spec PyProof.Rows
section
variable {X:Cx}
theorem bin {a b:Expr}{ta tb:TE} (ha:PE X a ta) (hb:PE X b tb) {pins:List (Addr×Obj)}{s:Shared}{σ:St}{H:Hp}{R:V→V→Hp→Prop} (I:Inv X pins σ H s) (h:ta σ H fun x H1=>tb σ H1 fun y H2=>R x y H2)
 {α:Type}{Q:α→Shared→Prop}{f:Value→Value→Sem α}
 (hf:∀ v u s2 x y H2,Inv X pins σ H2 s2→RelV x v→RelV y u→R x y H2→wpAny (model X.prog X.w) X.A (f v u) Q X.xe s2):
 wpAny (model X.prog X.w) X.A (eval a X.env) (fun v s₁=>wpAny (model X.prog X.w) X.A (eval b X.env) (fun u s₂=>wpAny (model X.prog X.w) X.A (f v u) Q X.xe s₂) X.xe s₁) X.xe s:=by
 refine thn (ha pins s σ H _ I h) fun v s1 ⟨x,H1,I1,r1,q1⟩=>?_
 refine thn (hb pins s1 σ H1 _ I1 q1) fun u s2 ⟨y,H2,I2,r2,q2⟩=>?_
 exact hf v u s2 x y H2 I2 r1 r2 q2
inductive aaq (σ:St) (i:Nat) (H:Hp) (Q:VK):Prop | mk (v:V) (_:σ[i]?=some (some v)) (_:Q v H):aaq σ i H Q
def Vy (i:Nat):TE:=fun σ H Q=>aaq σ i H Q
def tC (v:V):TE:=fun _ H Q=>Q v H
theorem Xx {i:Nat}{x:Str}{pos:Pos} (hN:X.N[i]?=some x) (hv:Vis X.env.scope x) (hd:(x == ("__debug__" :Str))=false:=by decide) (hcd:(x == ("__classdict__" :Str))=false:=by decide):PE X (.Name x pos) (Vy i):=by
 intro pins s σ H Q I h
 obtain⟨v,e,h⟩:=h
 obtain⟨m,hn,hl⟩:=I.loc
 obtain⟨u,r,l⟩:=hl i x v hN e hv
 have fin:EP X pins σ Q u s:=⟨v,H,I,r,h⟩
 rcases l with ⟨hk,hm⟩ | ⟨hk,c,hc,WU⟩
 ·exact wpAny_Name (wpAny_loadName_local I.ok.kind hk hn hm fin) hd
 ·rcases hk with hk | hk
  ·exact wpAny_Name (wpAny_loadName_cell I.ok.kind hk hc WU fin) hd
  ·exact wpAny_Name (wpAny_loadName_free I.ok.kind hk hc WU fin hcd) hd
theorem aH {i j pos}:PE X (.Constant (.int i) j pos) (tC (.int i)):=fun _ _ _ H _ I h=>wpAny_Constant_int ⟨.int i,H,I.tok _,⟨_,rfl⟩,h⟩
theorem xq {b j pos}:PE X (.Constant (.bool b) j pos) (tC (.bl b)):=fun _ _ _ H _ I h=>Constant_bool ⟨.bl b,H,I,rfl,h⟩
theorem yF {j pos}:PE X (.Constant .none j pos) (tC .non):=fun _ _ _ H _ I h=>Constant_none ⟨.non,H,I,rfl,h⟩
def Gl (X:Cx) (x:Str):Prop:=X.env.kindOf x=some .globalImplicit
theorem C8 {E:Value→Shared→Prop}{pins:List (Addr×Obj)}{s:Shared}{σ:St}{H:Hp}{x:Str}{u:Value}{pos:Pos}{Q:Value→Shared→Prop} (I:Inv X pins σ H s) (hg:Gl X x) (hm:X.mg x=some u) (h:Q u s)
 (hd:(x == ("__debug__" :Str))=false:=by decide):wpAny (model X.prog X.w) X.A (eval (.Name x pos) X.env) Q E s:=
 Calls.Name_function_global I.ok.kind hg (Calls.loadGlobal_global (by rw[I.ok.glob];exact I.mod.glob.keeps I.bk) hm h) hd
theorem Iz {E:Value→Shared→Prop}{pins:List (Addr×Obj)}{s:Shared}{σ:St}{H:Hp}{x:Str}{u:Value}{pos:Pos}{Q:Value→Shared→Prop} (I:Inv X pins σ H s) (hg:Gl X x) (hm:X.mg x=none) (hv:bootBuiltins x=some u) (h:Q u s)
 (hn:x≠"__name__":=by decide) (hd:(x == ("__debug__" :Str))=false:=by decide):wpAny (model X.prog X.w) X.A (eval (.Name x pos) X.env) Q E s:=by
 obtain⟨mb,h1,h2⟩:=I.mod.blt
 exact Calls.Name_function_global I.ok.kind hg (Calls.loadGlobal_builtin (by rw[I.ok.glob];exact I.mod.glob.keeps I.bk) hm (by rw[I.ok.blt];exact h1.keeps I.bk) ((h2 x hn).trans hv) h) hd
theorem bz {x:Str}{v:V}{u:Value}{pos:Pos} (hg:Gl X x) (hm:X.mg x=some u) (r:RelV v u) (hd:(x == ("__debug__" :Str))=false:=by decide):PE X (.Name x pos) (tC v):=
 fun _ _ _ H _ I h=>C8 I hg hm ⟨v,H,I,r,h⟩ hd
variable {a b:Expr}{ta tb:TE}{pos:Pos}
def PC (X:Cx) (op:CmpOp) (a b:Expr) (t:TE):Prop:=
 ∀ (pins:List (Addr×Obj)) (s:Shared) (σ:St) (H:Hp) (Q:VK),Inv X pins σ H s→t σ H Q→
   wpAny (model X.prog X.w) X.A (eval a X.env) (fun v s₁=>wpAny (model X.prog X.w) X.A (eval b X.env) (fun u s₂=>wpAny (model X.prog X.w) X.A (compareOp op v u) (EP X pins σ Q) X.xe s₂) X.xe s₁) X.xe s
inductive YE (x:V) (H1:Hp) (Q:Bool→Hp→Prop):Prop | mk (c:Bool) (_:x=.bl c) (_:Q c H1):YE x H1 Q
def tB (t:TE):TT:=fun σ H Q=>t σ H fun x H1=>YE x H1 Q
theorem Ew {op:CmpOp}{t:TE} (h:PC X op a b t) (h1:behindInMarks op b=false:=by first | exact Zd _ (by decide) (by decide) | rfl):PT X (.Compare a [op] [b] pos) (tB t):=by
 intro pins s σ H Q I hw
 refine wpAny_isTrue_Compare1 (thn (h pins s σ H _ I hw) fun v s1 h1=>thn h1 fun u s2 h2=>thn h2 fun c s3 ⟨x,H1,I1,r1,q1⟩=>?_) h1
 obtain⟨d,rfl,q⟩:=q1
 cases r1
 exact za ⟨H1,I1,q⟩
theorem uE {e:Expr}{t:TE} (h:PE X e t) (he:∀ whole,isTrue e X.env whole=(do let v ← whole;standAt e.pos;holding [v] (truthy v)):=by intro _;rfl):PT X e (tB t):=by
 intro pins s σ H Q I hw
 refine isTrue_plain (thn (h pins s σ H _ I hw) fun v s1 ⟨x,H1,I1,r1,q1⟩=>?_) (he _)
 obtain⟨d,rfl,q⟩:=q1
 cases r1
 exact za ⟨H1,I1,q⟩
variable {tA tB':TT}{rest:List Expr}
def tOr (t u:TT):TT:=fun σ H Q=>t σ H fun c H1=>if c=true then Q true H1 else u σ H1 Q
def aaK (t:TT):TT:=fun σ H Q=>t σ H fun c H1=>Q (!c) H1
theorem Ms (ha:PT X a tA):PW X (.BoolOp .Or [a] pos) tA:=by
 intro wh pins s σ H Q I h
 refine isTrue_or (thn (ha pins s σ H Q I h) fun c s1 e=>?_)
 cases c with
 | false=>exact isTrue_or_nil e
 | true=>exact e
theorem N9 (ha:PT X a tA) (hb:PW X (.BoolOp .Or (b::rest) pos) tB'):PW X (.BoolOp .Or (a::b::rest) pos) (tOr tA tB'):=by
 intro wh pins s σ H Q I h
 refine isTrue_or (thn (ha pins s σ H _ I h) fun c s1 ⟨H1,I1,q1⟩=>?_)
 cases c with
 | true=>exact⟨H1,I1,q1⟩
 | false=>exact hb wh pins s1 σ H1 Q I1 q1
theorem Bp (ha:PT X a tA):PT X (.UnaryOp .Not a pos) (aaK tA):=by
 intro pins s σ H Q I h
 exact isTrue_not (ha pins s σ H (fun c H1=>Q (!c) H1) I h)
def Tc (ta tb:TE):TE:=fun σ H Q=>ta σ H fun x H1=>∃ c,x=.bl c∧if c=true then tb σ H1 Q else Q (.bl false) H1
theorem TC {op}{t:TE} (h:PE X a t):PE X (.BoolOp op [a] pos) t:=fun pins s σ H Q I hw=>BoolOp_one (h pins s σ H Q I hw)
theorem TJ (ha:PE X a ta) (hb:PE X (.BoolOp .And (b::rest) pos) tb):PE X (.BoolOp .And (a::b::rest) pos) (Tc ta tb):=by
 intro pins s σ H Q I h
 refine BoolOp_and (thn (ha pins s σ H _ I h) fun v s1 ⟨x,H1,I1,r1,q1⟩=>?_)
 obtain⟨c,rfl,q1⟩:=q1
 cases r1
 refine za ?_
 cases c with
 | true=>exact hb pins s1 σ H1 Q I1 q1
 | false=>exact⟨.bl false,H1,I1,rfl,q1⟩
end
end L2
namespace L2
open PySem PySem.Spec PyProof.Rows
def SqL (K:ai) (H:Hp) (a:Addr) (xs:List V):Prop:=
 Rd H a (.lst xs)∨
  ∃ (o:Obj) (its:Array Value) (n:Nat),K.lookup a=some o∧o.cls=.type "list"∧o.dict=none∧o.data=.seq its n∧its.size≤sizeLine∧Vals xs its.toList
def SqT (K:ai) (H:Hp) (a:Addr) (xs:List V):Prop:=
 Rd H a (.tup xs)∨
  ∃ (o:Obj) (its:Array Value) (n:Nat),K.lookup a=some o∧o.cls=.type "tuple"∧o.data=.seq its n∧its.size≤sizeLine∧Vals xs its.toList
def ac1:Value→Option V
 | .none=>some .non
 | .bool b=>some (.bl b)
 | .int i _=>some (.int i)
 | .str x _=>some (.str x)
 | .bytes b _=>some (.byt b)
 | .float b _=>some (.flt b)
 | .ref a=>some (.ref a)
 | .type n=>some (.ty n)
 | _=>none
theorem RelV.abs {x:V}{u:Value} (r:RelV x u):ac1 u=some x:=by
 cases x with
 | non=>cases r;rfl
 | bl _=>cases r;rfl
 | int _=>obtain⟨t,rfl⟩:=r;rfl
 | str _=>obtain⟨t,rfl⟩:=r;rfl
 | byt _=>obtain⟨t,rfl⟩:=r;rfl
 | flt _=>obtain⟨t,rfl⟩:=r;rfl
 | ref _=>cases r;rfl
 | ty _=>cases r;rfl
theorem RelV.inj {x y:V}{u:Value} (r:RelV x u) (q:RelV y u):x=y:=aa (r.abs.symm.trans q.abs)
theorem Vals.inj:∀ {xs ys:List V}{us:List Value},Vals xs us→Vals ys us→xs=ys
 | _,_,_,.nil,.nil=>rfl
 | _,_,_,.cons r t,.cons r' t'=>by rw[r.inj r',Vals.inj t t']
section
variable {X:Cx}{pins:List (Addr×Obj)}{σ:St}{H:Hp}{s:Shared}{a:Addr}{xs ys:List V}
theorem SqL.of {K:ai} (h:H a=some (.lst xs)):SqL K H a xs:=.inl (.inl h)
theorem SqT.of {K:ai} (h:H a=some (.tup xs)):SqT K H a xs:=.inl (.inl h)
theorem Inv.list (I:Inv X pins σ H s) (h:SqL X.K H a xs):∃ its:List Value,Vals xs its∧PlainL s.heap a its.toArray∧xs.length≤sizeLine:=by
 rcases h with h | ⟨o,its,n,hk,hc,hd,hs,hz,r⟩
 ·obtain⟨z,its,n,r,e⟩:=h.ok I.hok
  exact⟨its,r,⟨_,n,e,rfl,rfl,rfl⟩,z⟩
 ·refine⟨its.toList,r,⟨o,n,I.kIn a o hk,hc,hd,by simpa using hs⟩,?_⟩
  have e:=r.length
  simp only[tM] at e
  omega
theorem Inv.tuple (I:Inv X pins σ H s) (h:SqT X.K H a xs):∃ its:List Value,Vals xs its∧IsTup s.heap a its.toArray∧xs.length≤sizeLine:=by
 rcases h with h | ⟨o,its,n,hk,hc,hs,hz,r⟩
 ·obtain⟨z,its,r,p⟩:=h.ok I.hok
  exact⟨its,r,p.up,z⟩
 ·refine⟨its.toList,r,⟨o,I.kIn a o hk,hc,n,by simpa using hs⟩,?_⟩
  have e:=r.length
  simp only[tM] at e
  omega
theorem Inv.T7 (I:Inv X pins σ H s) (h:SqL X.K H a xs) (h':SqL X.K H a ys):xs=ys:=by
 obtain⟨its,r,⟨o,n,e,_,_,d⟩,_⟩:=I.list h
 obtain⟨its',r',⟨o',n',e',_,_,d'⟩,_⟩:=I.list h'
 rw[e] at e';cases e'
 rw[d] at d'
 injection d' with d1 _
 have:its=its':=by simpa using congrArg Array.toList d1
 subst this
 exact r.inj r'
theorem Inv.RW (I:Inv X pins σ H s) (h:SqT X.K H a xs) (h':SqT X.K H a ys):xs=ys:=by
 obtain⟨its,r,⟨o,e,_,n,d⟩,_⟩:=I.tuple h
 obtain⟨its',r',⟨o',e',_,n',d'⟩,_⟩:=I.tuple h'
 rw[e] at e';cases e'
 rw[d] at d'
 injection d' with d1 _
 have:its=its':=by simpa using congrArg Array.toList d1
 subst this
 exact r.inj r'
end
abbrev Cx.Jz (X:Cx) (E:Value→Shared→Prop):Cx:={ X with xe:=E }
abbrev Cx.nox (X:Cx):Cx:=X.Jz fun _ _=>False
theorem Cx.Ok.Jz {X:Cx} (ok:X.Ok) (E:Value→Shared→Prop):(X.Jz E).Ok:=
 ⟨ok.mod,ok.kind,ok.glob,ok.blt,ok.above,ok.inj,ok.has,ok.cab,ok.hd,ok.frames,ok.stk,ok.exf,ok.bs,ok.bsz,ok.Oh,ok.O3,ok.BF,ok.frf⟩
theorem Cx.Ok.yj {X:Cx}{E:Value→Shared→Prop} (ok:(X.Jz E).Ok):X.Ok:=
 ⟨ok.mod,ok.kind,ok.glob,ok.blt,ok.above,ok.inj,ok.has,ok.cab,ok.hd,ok.frames,ok.stk,ok.exf,ok.bs,ok.bsz,ok.Oh,ok.O3,ok.BF,ok.frf⟩
section
variable {X:Cx}{pins:List (Addr×Obj)}{σ:St}{H:Hp}{s:Shared}{E:Value→Shared→Prop}
theorem Inv.Jz (I:Inv X pins σ H s) (E:Value→Shared→Prop):Inv (X.Jz E) pins σ H s:=⟨I.ok.Jz E,I.os,I.bare,I.base,I.loc,I.cell,I.free,I.rG,I.pin,I.hok,I.len⟩
theorem Inv.yj (I:Inv (X.Jz E) pins σ H s):Inv X pins σ H s:=⟨I.ok.yj,I.os,I.bare,I.base,I.loc,I.cell,I.free,I.rG,I.pin,I.hok,I.len⟩
theorem SP.yj {D:Ends}{f:Flow}{s':Shared} (h:SP (X.Jz E) pins D f s'):SP X pins D f s':=by
 cases f with
 | next=>obtain⟨σ',H',I,q⟩:=h;exact⟨σ',H',I.yj,q⟩
 | brk=>obtain⟨σ',H',I,q⟩:=h;exact⟨σ',H',I.yj,q⟩
 | cont=>obtain⟨σ',H',I,q⟩:=h;exact⟨σ',H',I.yj,q⟩
 | ret u=>obtain⟨v,σ',H',I,r,q⟩:=h;exact⟨v,σ',H',I.yj,r,q⟩
theorem PSs.nox {st:List Stmt}{t:TS} (h:PSs X.nox st t):PSs X st t:=fun pins s σ H D I hw=>
 g8 (h pins s σ H D (I.Jz _) hw) (fun _ _ q=>q.yj) fun _ _ z=>dF z
end
section
variable {X:Cx}{st:Stmt}{rest:List Stmt}{t u:TS}{e:Expr}{te:TE}{pos:Pos}
def NO:TS:=fun D σ H=>D.nx σ H
def RY (t u:TS):TS:=fun D σ H=>t { D with nx:=u D } σ H
theorem bp:PSs X [] NO:=fun _ _ σ H _ I h=>uQ ⟨σ,H,I,h⟩
theorem ak (h1:PS X st t) (h2:PSs X rest u):PSs X (st::rest) (RY t u):=by
 intro pins s σ H D I h
 refine wpAny_execs_cons (thn (h1 pins s σ H { D with nx:=u D } I h) fun f s1 q=>?_)
 cases f with
 | next=>
   obtain⟨σ',H',I',q⟩:=q
   exact h2 pins s1 σ' H' D I' q
 | ret v=>exact q
 | brk=>exact q
 | cont=>exact q
theorem aA (h1:PS X st t):PSs X [st] t:=by
 intro pins s σ H D I h
 refine wpAny_execs_cons (thn (h1 pins s σ H D I h) fun f s1 q=>?_)
 cases f with
 | next=>exact uQ q
 | ret v=>exact q
 | brk=>exact q
 | cont=>exact q
def YW:TS:=fun D σ H=>D.ct σ H
theorem Oc:PS X (.Continue pos) YW:=fun _ _ σ H _ I h=>wpAny_Continue ⟨σ,H,I,h⟩
theorem Inv.quiet {pins:List (Addr×Obj)}{σ:St}{H:Hp}{s:Shared} (I:Inv X pins σ H s):interactive X.env=false:=by simp[interactive,I.ok.kind]
def YU (te:TE):TS:=fun D σ H=>te σ H fun _ H1=>D.nx σ H1
theorem cw (he:PE X e te) (hs:swapsWith e none pos.line X.env=pure false:=by rfl):PS X (.Expr e pos) (YU te):=by
 intro pins s σ H D I h
 exact wpAny_Expr_any (thn (he pins s σ H _ I h) fun v s1 ⟨x,H1,I1,r1,q1⟩=>⟨σ,H1,I1,q1⟩) I.quiet hs
def LW (te:TE):TS:=fun D σ H=>te σ H D.rt
theorem a6 (he:PE X e te):PS X (.Return (some e) pos) (LW te):=by
 intro pins s σ H D I h
 exact wpAny_Return_some (thn (he pins s σ H _ I h) fun v s1 ⟨x,H1,I1,r1,q1⟩=>⟨x,σ,H1,I1,r1,q1⟩)
def YO:TS:=fun D _ H=>D.rt .non H
theorem Mt:PS X (.Return none pos) YO:=fun _ _ σ H _ I h=>wpAny_Return_none ⟨.non,σ,H,I,rfl,h⟩
def aaL (c:TT) (t u:TS):TS:=fun D σ H=>c σ H fun b H1=>if b=true then t D σ H1 else u D σ H1
theorem b9 {c:Expr}{a b:List Stmt}{tc:TT} (hc:PT X c tc) (ha:PSs X a t) (hb:PSs X b u):PS X (.If c a b pos) (aaL tc t u):=by
 intro pins s σ H D I h
 refine wpAny_If (thn (hc pins s σ H _ I h) fun d s1 ⟨H1,I1,q1⟩=>?_)
 cases d with
 | true=>exact ha pins s1 σ H1 D I1 q1
 | false=>exact hb pins s1 σ H1 D I1 q1
def Xf:TS:=fun _ _ _=>False
theorem Tz:PS X st Xf:=fun _ _ _ _ _ _ h=>h.elim
end
abbrev TG:=V→St→Hp→(St→Hp→Prop)→Prop
abbrev TGs:=List V→St→Hp→(St→Hp→Prop)→Prop
def PG (X:Cx) (target:Expr) (t:TG):Prop:=
 ∀ (pins:List (Addr×Obj)) (s:Shared) (σ:St) (H:Hp) (v:V) (u:Value) (Q:St→Hp→Prop),Inv X pins σ H s→RelV v u→t v σ H Q→
   wpAny (model X.prog X.w) X.A (assign target X.env u) (fun _ s'=>∃ σ' H',Inv X pins σ' H' s'∧Q σ' H') X.xe s
def PGs (X:Cx) (ts:List Expr) (t:TGs):Prop:=
 ∀ (pins:List (Addr×Obj)) (s:Shared) (σ:St) (H:Hp) (vs:List V) (us:List Value) (Q:St→Hp→Prop),Inv X pins σ H s→Vals vs us→t vs σ H Q→
   wpAny (model X.prog X.w) X.A (assignInOrder ((assignEach ts X.env).map (·.2)) us) (fun _ s'=>∃ σ' H',Inv X pins σ' H' s'∧Q σ' H') X.xe s
abbrev YA:=V→V→V→Hp→(Hp→Prop)→Prop
def aam (X:Cx) (t:YA):Prop:=
 ∀ (pins:List (Addr×Obj)) (s:Shared) (σ:St) (H:Hp) (o i v:V) (ov iv u:Value) (Q:Hp→Prop),Inv X pins σ H s→RelV o ov→RelV i iv→RelV v u→t o i v H Q→
   wpAny (model X.prog X.w) X.A (setItem ov iv u) (fun _ s'=>∃ H',Inv X pins σ H' s'∧Q H') X.xe s
section
variable {X:Cx}{pos:Pos}
def AG (i:Nat):TG:=fun v σ H Q=>Q (σ.set i (some v)) H
theorem cg {i:Nat}{x:Str} (hN:X.N.Nodup) (hi:X.N[i]?=some x) (hx:Loc X.env.scope x) (hf:X.fn x=true∨X.env.scope.names.lookup x=some .local:=by first | exact .inl rfl | exact .inr rfl | assumption):PG X (.Name x pos) (AG i):=by
 intro pins s σ H v u Q I r h
 exact wpAny_assign_Name (NP I hN hi hx r (fun s' I'=>⟨_,H,I',h⟩) hf)
def aad:TGs:=fun vs σ H Q=>vs=[]∧Q σ H
def UR (t:TG) (u:TGs):TGs:=fun vs σ H Q=>∃ v r,vs=v::r∧t v σ H fun σ' H'=>u r σ' H' Q
theorem VM:PGs X [] aad:=by
 intro pins s σ H vs us Q I r h
 obtain⟨e,h⟩:=h
 subst e
 cases r
 exact assignInOrder_nil ⟨σ,H,I,h⟩
theorem Oe {e:Expr}{es:List Expr}{t:TG}{u:TGs} (h1:PG X e t) (h2:PGs X es u)
 (hs:(assignEach (e::es) X.env).map (·.2)=assign e X.env::(assignEach es X.env).map (·.2):=by rfl):PGs X (e::es) (UR t u):=by
 intro pins s σ H vs us Q I r h
 obtain⟨v,vr,e1,h⟩:=h
 subst e1
 cases r with
 | cons r rr=>
   rw[hs]
   refine assignInOrder_cons (thn (h1 pins s σ H _ _ _ I r h) fun _ s1 ⟨σ1,H1,I1,q1⟩=>?_)
   exact h2 pins s1 σ1 H1 _ _ Q I1 rr q1
def aac (K:ai) (n:Nat) (t:TGs):TG:=fun v σ H Q=>∃ a xs,v=.ref a∧SqT K H a xs∧xs.length=n∧t xs σ H Q
theorem Xv {es:List Expr}{k:Nat}{t:TGs}{n:Nat} (hc:X.calm=true) (h:PGs X es t)
 (hn:(assignEach es X.env).length=n:=by rfl) (hst:(assignEach es X.env).findIdx? (·.1)=none:=by rfl):PG X (.Tuple es k pos) (aac X.K n t):=by
 intro pins s σ H v u Q I r hw
 obtain⟨a,xs,e1,hq,hl,hw⟩:=hw
 subst e1
 cases r
 obtain⟨its,rv,ht,hz⟩:=I.tuple hq
 refine assign_Tuple_tuple (I.ok.hd hc) ht (by simp[hn,← hl,rv.length]) hst fun h' hx=>?_
 have I1:Inv X pins σ H { s with heap:=h' }:=I.kept (t':=s.toks) fun b o e=>hx b o (bV (Heap.lt_size e)) e
 exact h pins _ σ H xs _ Q I1 (by simpa using rv) hw
def acW (to ti:TE) (t:YA):TG:=fun v σ H Q=>to σ H fun o H1=>ti σ H1 fun i H2=>t o i v H2 fun H3=>Q σ H3
theorem Xw {o i:Expr}{to ti:TE}{t:YA} (ho:PE X o to) (hi:PE X i ti) (hs:aam X t)
 (ha:∀ v,assign (.Subscript o i pos) X.env v=(do
   let ov ← holding [v] (eval o X.env)
   let iv ← holding [v,ov] (eval i X.env)
   standAt pos
   holding [v,ov,iv] (setItem ov iv v)
   release [v,ov,iv] []):=by intro _;rfl):PG X (.Subscript o i pos) (acW to ti t):=by
 intro pins s σ H v u Q I r h
 rw[ha]
 refine ao (jP (thn (ho pins s σ H _ I h) fun ov s1 ⟨x,H1,I1,r1,q1⟩=>?_))
 refine ao (jP (thn (hi pins s1 σ H1 _ I1 q1) fun iv s2 ⟨y,H2,I2,r2,q2⟩=>?_))
 refine ao (wpAny_standAt (ao (jP (thn (hs pins s2 σ H2 x y v ov iv u _ I2 r1 r2 r q2) fun _ s3 ⟨H3,I3,q3⟩=>?_))))
 exact wpAny_release ⟨σ,H3,I3,q3⟩
def PV (te:TE) (g:TG):TS:=fun D σ H=>te σ H fun x H1=>g x σ H1 D.nx
theorem Xu {tg e:Expr}{te:TE}{g:TG} (he:PE X e te) (hg:PG X tg g) (hs:swapsWithSole [tg] e pos.line X.env=pure false:=by rfl) (hw:swappedStores [tg] e X.env=pure none:=by rfl)
 (h1:(assignEach [tg] X.env).map (·.2)=[assign tg X.env]:=by rfl):PS X (.Assign [tg] e pos) (PV te g):=by
 intro pins s σ H D I h
 refine wpAny_Assign_stores (thn (he pins s σ H _ I h) fun v s1 ⟨x,H1,I1,r1,q1⟩=>?_) hs hw
 rw[h1]
 exact thn (hg pins s1 σ H1 x v _ I1 r1 q1) fun _ s2 q=>q
theorem bW {i:Nat}{x:Str}{e:Expr}{te:TE}{pos':Pos} (hN:X.N.Nodup) (hi:X.N[i]?=some x) (hx:Loc X.env.scope x) (he:PE X e te) (hs:swapsWith e (some (.Name x pos')) pos.line X.env=pure false:=by rfl) (hf:X.fn x=true∨X.env.scope.names.lookup x=some .local:=by first | exact .inl rfl | exact .inr rfl | assumption):
 PS X (.Assign [.Name x pos'] e pos) (PV te (AG i)):=by
 intro pins s σ H D I h
 refine wpAny_Assign_Name (thn (he pins s σ H _ I h) fun v s1 ⟨y,H1,I1,r1,q1⟩=>?_) hs
 exact NP I1 hN hi hx r1 (fun s2 I2=>⟨_,H1,I2,q1⟩) hf
end
section
variable {X:Cx}{pos:Pos}
def Xd (c:TT) (tb:TS):TS:=fun D σ H=>∃ W:Nat→St→Hp→Prop,(∃ m,W m σ H)∧∀ m σ H,W m σ H→
 c σ H fun b H1=>if b=true then ∃ N:St→Hp→Prop,(∀ σ' H',N σ' H'→∃ m',m' < m∧W m' σ' H')∧tb { D with nx:=N,ct:=N,bk:=D.nx } σ H1 else D.nx σ H1
theorem HE {c:Expr}{body:List Stmt}{tc:TT}{tb:TS} (hp:PassesOwn (model X.prog X.w) X.A X.env X.xe) (hc:PT X c tc) (hb:PSs X body tb):PS X (.While c body [] pos) (Xd tc tb):=by
 intro pins s σ H D I h
 obtain⟨W,⟨m0,w0⟩,turn⟩:=h
 refine wpAny_While (codeAny_whileLoop (fun n s'=>∃ σ' H',Inv X pins σ' H' s'∧W n σ' H') ?_ m0 ⟨σ,H,I,w0⟩)
 rintro n s1 ⟨σ1,H1,I1,w1⟩
 refine l7 hp (thn (hc pins s1 σ1 H1 _ I1 (turn n σ1 H1 w1)) fun b s2 ⟨H2,I2,q2⟩=>?_)
 cases b with
 | true=>
   obtain⟨N,hN,q2⟩:=q2
   rw[if_pos rfl]
   refine l7 hp (thn (hb pins s2 σ1 H2 _ I2 q2) fun f s3 q3=>?_)
   cases f with
   | next=>
     obtain⟨σ3,H3,I3,n3⟩:=q3
     obtain⟨m',hm,w3⟩:=hN σ3 H3 n3
     exact⟨m',hm,σ3,H3,I3,w3⟩
   | cont=>
     obtain⟨σ3,H3,I3,n3⟩:=q3
     obtain⟨m',hm,w3⟩:=hN σ3 H3 n3
     exact⟨m',hm,σ3,H3,I3,w3⟩
   | brk=>exact q3
   | ret v=>exact q3
 | false=>
   rw[if_neg aZ]
   exact uQ ⟨σ1,H2,I2,q2⟩
end
structure It where
 go:Nat→Hp→Prop
 yld:Nat→Hp→V→Hp→Prop
 stop:Nat→Hp→Prop
def KA (X:Cx) (pins:List (Addr×Obj)) (H:Hp) (b:Addr):Prop:=
 H b=none∧b≠X.env.locals∧b∉X.fs∧(b∈X.ex∨X.s_0.heap.objs.size≤b)∧(∀ x c,X.env.cells.lookup x=some c→c≠b)∧∀ p∈X.pn++pins,p.1≠b
theorem Inv.UT {X:Cx}{pins:List (Addr×Obj)}{σ:St}{H H':Hp}{s:Shared}{b:Addr} (I:Inv X pins σ H s) (hb:s.heap.objs.size≤b) (hn:H' b=none):KA X pins H' b:=by
 refine⟨hn,zr (b7 I.lt hb),I.ab3 hb,.inr (bP I.sz hb),fun x c e z=>?_,fun p hp z=>?_⟩
 ·obtain⟨v,q⟩:=I.cell x c e
  exact absurd (b7 q.lt (by rw[z];exact hb)) (hG _)
 ·exact absurd (b7 (Heap.lt_size (I.pin p hp).1) (by rw[z];exact hb)) (hG _)
structure Turn (P:Program) (w:World) (K:ai) (tg:Expr) (J:It) (fp:List Addr) (it:Addr) (tn:Nat→Heap→Prop):Prop where
 mem:it∈fp
 obj:∀ i h,tn i h→∀ b∈fp,∃ o,h.get? b=some o∧∀ v,o.data≠.cell v
 keep:∀ i h h',tn i h→(∀ b∈fp,∀ o,h.get? b=some o→h'.get? b=some o)→tn i h'
 item:∀ (X:Cx),X.prog=P→X.w=w→X.K=K→X.calm=true→∀ (i:Nat) (pins:List (Addr×Obj)) (s:Shared) (σ:St) (H:Hp) (E:Value→Shared→Prop),Inv X pins σ H s→(∀ b∈fp,KA X pins H b)→tn i s.heap→J.go i H→
  wpAny (model P w) X.A (pyNext (.ref it)) (fun r s1=>∃ u,r=some u∧
   wpAny (model P w) X.A (letOwnedTupleGo tg (.ref it) u) (fun _ s2=>∃ x H',Inv X pins σ H' s2∧RelV x u∧J.yld i H x H'∧tn (i+1) s2.heap∧∀ b∈fp,H' b=none) E s1) E s
 done:∀ (X:Cx),X.prog=P→X.w=w→X.K=K→X.calm=true→∀ (i:Nat) (pins:List (Addr×Obj)) (s:Shared) (σ:St) (H:Hp) (E:Value→Shared→Prop),Inv X pins σ H s→(∀ b∈fp,KA X pins H b)→tn i s.heap→J.stop i H→
  wpAny (model P w) X.A (pyNext (.ref it)) (fun r s1=>r=none∧Inv X pins σ H s1) E s
 self:∀ (A:Around) (i:Nat) (s:Shared) (Q:Value→Shared→Prop) (E:Value→Shared→Prop),tn i s.heap→Q (.ref it) s→wpAny (model P w) A (pyIter (.ref it)) Q E s
abbrev TI:=St→Hp→(It→Hp→Prop)→Prop
def PIE (X:Cx) (pins:List (Addr×Obj)) (σ:St) (tg:Expr) (R:It→Hp→Prop) (itv:Value) (s2:Shared):Prop:=
 ∃ (it:Addr) (fp:List Addr) (tn:Nat→Heap→Prop) (J:It) (H':Hp),itv=.ref it∧Inv X pins σ H' s2∧Turn X.prog X.w X.K tg J fp it tn∧tn 0 s2.heap∧(∀ b∈fp,KA X pins H' b)∧R J H'
def PI (X:Cx) (tg iter:Expr) (wi:TI):Prop:=
 ∀ (pins:List (Addr×Obj)) (s:Shared) (σ:St) (H:Hp) (R:It→Hp→Prop),Inv X pins σ H s→wi σ H R→
   wpAny (model X.prog X.w) X.A (eval iter X.env) (fun v s1=>wpAny (model X.prog X.w) X.A (pyIter v) (PIE X pins σ tg R) X.xe s1) X.xe s
theorem Ls {M:Model}{A:Around}{E:Value→Shared→Prop}{s:Shared}{tg:Expr}{it:Addr}{u:Value}{o:Obj}{n:String}{vs:Array Value}{Q:Unit→Shared→Prop} (ho:s.heap.get? it=some o) (hc:o.cls=.type n) (hd:o.data=.fields vs)
 (hn:["enumerate","zip","dict_itemiterator","dict_reverseitemiterator","odict_iterator","itertools.zip_longest","itertools.pairwise"].contains n=false) (hQ:Q () s):wpAny M A (letOwnedTupleGo tg (.ref it) u) Q E s:=by
 unfold letOwnedTupleGo
 cases tg<;>first
  | exact aS hQ
  | (cases u<;>first
      | exact aS hQ
      | (refine ao (wpAny_load ho ?_)
         rw[hc,hd]
         show wpAny M A (if (["enumerate","zip","dict_itemiterator","dict_reverseitemiterator","odict_iterator","itertools.zip_longest","itertools.pairwise"].contains n && vs[0]? == some (rawInt _))=true then _ else _) Q E s
         rw[if_neg (by intro h;rw[hn,mE] at h;cases h)]
         exact aS hQ))
def Itl (K:ai) (a:Addr):It:=
 ⟨fun i H=>∃ xs x,SqL K H a xs∧xs[i]?=some x,fun i H x H'=>H'=H∧∀ xs,SqL K H a xs→xs[i]?=some x,fun i H=>∃ xs,SqL K H a xs∧xs.length≤i⟩
def Itt (K:ai) (a:Addr):It:=
 ⟨fun i H=>∃ xs x,SqT K H a xs∧xs[i]?=some x,fun i H x H'=>H'=H∧∀ xs,SqT K H a xs→xs[i]?=some x,fun i H=>∃ xs,SqT K H a xs∧xs.length≤i⟩
def Itr (lo:Int) (n:Nat):It:=⟨fun i _=>i < n,fun i H x H'=>H'=H∧x=.int (lo+i),fun i _=>n≤i⟩
theorem RU {P:Program}{w:World}{K:ai}{tg:Expr} (a it:Addr):Turn P w K tg (Itl K a) [it] it (fun i h=>h.IsListIter it a i) where
 mem:=by simp
 obj:=fun i h st b hb=>by
  have e:b=it:=by simpa using hb
  subst e
  obtain⟨o,e,c,d⟩:=st
  exact⟨o,e,fun v z=>by rw[d] at z;cases z⟩
 keep:=fun i h h' st k=>st.at fun o e=>k it (by simp) o e
 item:=by
  intro X hP hw hK hc i pins s σ H E I hf st hg
  subst hP hw hK
  obtain⟨xs,x,hq,hx⟩:=hg
  obtain⟨its,rv,p,hz⟩:=I.list hq
  obtain⟨u,hu,ru⟩:=rv.get hx
  obtain⟨f0,f1,f2,f3,f4,f5⟩:=hf it (by simp)
  refine wpAny_pyNext_list_item st p.isList (x:=u) (by simpa using hu) fun h' st' sb=>?_
  have I1:Inv X pins σ H { s with heap:=h' }:=I.turned (t':=s.toks) (fun b o hb e=>(sb.2 b hb).trans e) f0 f1 f3 f4 f5
  obtain⟨o,e,c,d⟩:=id st'
  exact⟨u,rfl,Ls (s:={ s with heap:=h' }) e c d (by decide) ⟨x,H,I1,ru,⟨rfl,fun ys hy=>by rw[I.T7 hy hq];exact hx⟩,st',fun b hb=>(hf b hb).1⟩⟩
 done:=by
  intro X hP hw hK hc i pins s σ H E I hf st hg
  subst hP hw hK
  obtain⟨xs,hq,hx⟩:=hg
  obtain⟨its,rv,p,hz⟩:=I.list hq
  obtain⟨f0,f1,f2,f3,f4,f5⟩:=hf it (by simp)
  have hl:=rv.length
  exact wpAny_pyNext_list_end (I.ok.hd hc) st p.isList (by simp;omega) fun h' eb=>⟨rfl,I.turned (t':=s.toks) (fun b o hb e=>eb b o hb e) f0 f1 f3 f4 f5⟩
 self:=fun _ _ _ _ _ st h=>wpAny_pyIter_listiter st h
theorem PN {P:Program}{w:World}{K:ai}{tg:Expr} (a it:Addr):Turn P w K tg (Itt K a) [it] it (fun i h=>h.IsTupleIter it a i) where
 mem:=by simp
 obj:=fun i h st b hb=>by
  have e:b=it:=by simpa using hb
  subst e
  obtain⟨o,e,c,d⟩:=st
  exact⟨o,e,fun v z=>by rw[d] at z;cases z⟩
 keep:=fun i h h' st k=>st.at fun o e=>k it (by simp) o e
 item:=by
  intro X hP hw hK hc i pins s σ H E I hf st hg
  subst hP hw hK
  obtain⟨xs,x,hq,hx⟩:=hg
  obtain⟨its,rv,p,hz⟩:=I.tuple hq
  obtain⟨u,hu,ru⟩:=rv.get hx
  obtain⟨f0,f1,f2,f3,f4,f5⟩:=hf it (by simp)
  refine wpAny_pyNext_tuple_item st (show s.heap.IsTuple a its.toArray from p) (x:=u) (by simpa using hu) fun h' st' sb=>?_
  have I1:Inv X pins σ H { s with heap:=h' }:=I.turned (t':=s.toks) (fun b o hb e=>(sb.2 b hb).trans e) f0 f1 f3 f4 f5
  obtain⟨o,e,c,d⟩:=id st'
  exact⟨u,rfl,Ls (s:={ s with heap:=h' }) e c d (by decide) ⟨x,H,I1,ru,⟨rfl,fun ys hy=>by rw[I.RW hy hq];exact hx⟩,st',fun b hb=>(hf b hb).1⟩⟩
 done:=by
  intro X hP hw hK hc i pins s σ H E I hf st hg
  subst hP hw hK
  obtain⟨xs,hq,hx⟩:=hg
  obtain⟨its,rv,p,hz⟩:=I.tuple hq
  obtain⟨f0,f1,f2,f3,f4,f5⟩:=hf it (by simp)
  have hl:=rv.length
  exact wpAny_pyNext_tuple_end (I.ok.hd hc) st (show s.heap.IsTuple a its.toArray from p) (by simp;omega) fun h' eb=>⟨rfl,I.turned (t':=s.toks) (fun b o hb e=>eb b o hb e) f0 f1 f3 f4 f5⟩
 self:=fun _ _ _ _ _ st h=>wpAny_pyIter_tupleiter st h
theorem PQ {P:Program}{w:World}{K:ai}{tg:Expr} (it:Addr) (lo:Int) (n:Nat):Turn P w K tg (Itr lo n) [it] it (fun i h=>IsRangeIter h it (lo+(i:Nat) * 1) ((n:Int) - (i:Nat)) 1) where
 mem:=by simp
 obj:=fun i h st b hb=>by
  have e:b=it:=by simpa using hb
  subst e
  exact⟨_,st,fun v z=>by
   have z':Data.fields _=Data.cell v:=z
   cases z'⟩
 keep:=fun i h h' st k=>k it (by simp) _ st
 item:=by
  intro X hP hw hK hc i pins s σ H E I hf st hg
  subst hP hw hK
  obtain⟨f0,f1,f2,f3,f4,f5⟩:=hf it (by simp)
  have W:=Walks.range (prog:=X.prog) (w:=X.w) (I.ok.hd hc) it lo 1 n
  refine W.item i s _ _ hg st fun v h' tk hv st' kk=>?_
  obtain⟨t,rfl⟩:=hv
  have I1:Inv X pins σ H { s with heap:=h',toks:=tk }:=I.turned (fun b o hb e=>kk b o (by simpa using hb) e) f0 f1 f3 f4 f5
  refine⟨_,rfl,Ls (s:={ s with heap:=h',toks:=tk }) (n:="range_iterator") st' rfl rfl (by decide) ⟨.int (lo+i),H,I1,⟨t,?_⟩,⟨rfl,rfl⟩,st',fun b hb=>(hf b hb).1⟩⟩
  rw[Int.mul_one]
 done:=by
  intro X hP hw hK hc i pins s σ H E I hf st hg
  subst hP hw hK
  obtain⟨f0,f1,f2,f3,f4,f5⟩:=hf it (by simp)
  exact wpAny_pyNext_range_end (I.ok.hd hc) st (by have:n≤i:=hg;omega) fun h' eb=>⟨rfl,I.turned (t':=s.toks) (fun b o hb e=>eb b o hb e) f0 f1 f3 f4 f5⟩
 self:=fun _ _ _ _ _ st h=>wpAny_pyIter_rangeiter st h
end L2
namespace L2
open PySem PySem.Spec PyProof.Rows
section
variable {X:Cx}{tg:Expr}
def WO (K:ai) (tl:TE):TI:=fun σ H R=>tl σ H fun x H1=>∃ a,x=.ref a∧(∃ xs,SqL K H1 a xs)∧R (Itl K a) H1
def aca (K:ai) (tl:TE):TI:=fun σ H R=>tl σ H fun x H1=>∃ a,x=.ref a∧(∃ xs,SqT K H1 a xs)∧R (Itt K a) H1
theorem eY {l:Expr}{tl:TE} (hl:PE X l tl):PI X tg l (WO X.K tl):=by
 intro pins s σ H R I h
 refine thn (hl pins s σ H _ I h) fun v s1 ⟨x,H1,I1,r1,q1⟩=>?_
 obtain⟨a,e,⟨xs,hq⟩,q⟩:=q1
 subst e
 cases r1
 obtain⟨its,rv,p,hz⟩:=I1.list hq
 refine wpAny_pyIter_list p.isList ?_
 refine⟨s1.heap.objs.size,[s1.heap.objs.size],_,_,H1,rfl,I1.kept (t':=s1.toks) fun b o e=>Heap.get?_push_of_some _ e,RU a _,⟨_,Heap.get?_push_size _ rfl,rfl,rfl⟩,fun b hb=>?_,q⟩
 have e:b=s1.heap.objs.size:=by simpa using hb
 subst e
 exact I1.UT (aB _) (I1.hok.fresh (aB _))
theorem sQ {l:Expr}{tl:TE} (hl:PE X l tl):PI X tg l (aca X.K tl):=by
 intro pins s σ H R I h
 refine thn (hl pins s σ H _ I h) fun v s1 ⟨x,H1,I1,r1,q1⟩=>?_
 obtain⟨a,e,⟨xs,hq⟩,q⟩:=q1
 subst e
 cases r1
 obtain⟨its,rv,p,hz⟩:=I1.tuple hq
 refine wpAny_pyIter_tuple (show s1.heap.IsTuple a its.toArray from p) ?_
 refine⟨s1.heap.objs.size,[s1.heap.objs.size],_,_,H1,rfl,I1.kept (t':=s1.toks) fun b o e=>Heap.get?_push_of_some _ e,PN a _,⟨_,Heap.get?_push_size _ rfl,rfl,rfl⟩,fun b hb=>?_,q⟩
 have e:b=s1.heap.objs.size:=by simpa using hb
 subst e
 exact I1.UT (aB _) (I1.hok.fresh (aB _))
theorem N2 {pins:List (Addr×Obj)}{σ:St}{H:Hp}{s:Shared}{R:It→Hp→Prop}{E:Value→Shared→Prop}{lo hi:Int}{t u v:Tok}{tk:Nat} (I:Inv X pins σ H s) (h1:-(2 ^ 62)≤lo) (h2:lo < 2 ^ 62) (h3:-(2 ^ 62)≤hi) (h4:hi < 2 ^ 62)
 (q:R (Itr lo (hi - lo).toNat) H):wpAny (model X.prog X.w) X.A (pyIter (.ref s.heap.objs.size)) (PIE X pins σ tg R) E { s with heap:=s.heap.push { cls:=.type "range",data:=.fields #[.int lo t,.int hi u,.int 1 v] },toks:=tk }:=by
 refine wpAny_pyIter_range (IsRange.new ..) (small_one h1 h2 h3 h4) ?_
 have I1:Inv X pins σ H { s with heap:=s.heap.push { cls:=.type "range",data:=.fields #[.int lo t,.int hi u,.int 1 v] },toks:=tk }:=I.kept fun b o e=>Heap.get?_push_of_some _ e
 refine⟨(s.heap.push { cls:=.type "range",data:=.fields #[.int lo t,.int hi u,.int 1 v] }).objs.size,[(s.heap.push { cls:=.type "range",data:=.fields #[.int lo t,.int hi u,.int 1 v] }).objs.size],_,_,H,rfl,
  I1.kept (t':=tk) fun b o e=>Heap.get?_push_of_some _ e,PQ _ lo (hi - lo).toNat,?_,fun b hb=>?_,q⟩
 ·have e1:lo+((0:Nat):Int) * 1=lo:=by simp
  have e2:(((hi - lo).toNat:Nat):Int) - ((0:Nat):Int)=Builtin.Range.rangeSize lo hi 1:=by rw[rangeSize_one];split<;>omega
  show IsRangeIter _ _ (lo+((0:Nat):Int) * 1) ((((hi - lo).toNat:Nat):Int) - ((0:Nat):Int)) 1
  rw[e1,e2]
  exact Heap.get?_push_size _ rfl
 ·have e:b=(s.heap.push { cls:=.type "range",data:=.fields #[.int lo t,.int hi u,.int 1 v] }).objs.size:=by simpa using hb
  subst e
  exact I1.UT (aB _) (I1.hok.fresh (aB _))
def Zn (ta:TA):TI:=fun σ H R=>ta σ H fun vs H1=>∃ j:Int,vs=[.int j]∧-(2 ^ 62)≤j∧j < 2 ^ 62∧R (Itr 0 j.toNat) H1
def Zm (ta:TA):TI:=fun σ H R=>ta σ H fun vs H1=>∃ i j:Int,vs=[.int i,.int j]∧(-(2 ^ 62)≤i∧i < 2 ^ 62∧-(2 ^ 62)≤j∧j < 2 ^ 62)∧R (Itr i (j - i).toNat) H1
theorem La {a:Expr}{ta:TA}{p pos:Pos} (hg:Gl X "range") (hm:X.mg "range"=none) (ha:PA X [a] ta) (hs:starEach [a] X.env=[(false,eval a X.env)]:=by rfl):PI X tg (.Call (.Name "range" p) [a] [] pos) (Zn ta):=by
 intro pins s σ H R I h
 refine Call_ (Iz I hg hm boot_range (jR (thn (ha pos pins s σ H _ I h) fun us s1 ⟨vs,H1,I1,r1,q1⟩=>?_) hs rfl))
 obtain⟨j,e,q1,q2,q⟩:=q1
 subst e
 cases r1 with
 | cons r rr=>
   cases rr
   obtain⟨t,rfl⟩:=r
   exact call_range_1 (N2 I1 (by omega) (by omega) q1 q2 (by simpa using q))
theorem K9 {a b:Expr}{ta:TA}{p pos:Pos} (hg:Gl X "range") (hm:X.mg "range"=none) (ha:PA X [a,b] ta) (hs:starEach [a,b] X.env=[(false,eval a X.env),(false,eval b X.env)]:=by rfl) (hs2:starEach [b] X.env=[(false,eval b X.env)]:=by rfl):
 PI X tg (.Call (.Name "range" p) [a,b] [] pos) (Zm ta):=by
 intro pins s σ H R I h
 refine Call_ (Iz I hg hm boot_range (jR (thn (ha pos pins s σ H _ I h) fun us s1 ⟨vs,H1,I1,r1,q1⟩=>?_) (by rw[hs,hs2]) (by rw[hs2];rfl)))
 obtain⟨i,j,e,⟨q1,q2,q3,q4⟩,q⟩:=q1
 subst e
 cases r1 with
 | cons r rr=>
   cases rr with
   | cons r' rr=>
     cases rr
     obtain⟨t,rfl⟩:=r
     obtain⟨t',rfl⟩:=r'
     exact call_range_2 (N2 I1 q1 q2 q3 q4 q)
def aaM (wi:TI) (g:TG) (tb:TS):TS:=fun D σ H=>wi σ H fun J H1=>∃ W:Nat→Nat→St→Hp→Prop,(∃ m,W 0 m σ H1)∧∀ i m σ H,W i m σ H→
 (J.stop i H∧D.nx σ H)∨(J.go i H∧∃ N:St→Hp→Prop,(∀ σ' H',N σ' H'→∃ m',m' < m∧W (i+1) m' σ' H')∧∀ x H',J.yld i H x H'→g x σ H' fun σ2 H2=>tb { D with nx:=N,ct:=N,bk:=D.nx } σ2 H2)
def HG (fp:List Addr) (h:Heap):List (Addr×Obj):=fp.filterMap fun b=>(h.get? b).map fun o=>(b,o)
theorem BD {fp:List Addr}{h:Heap}{b:Addr}{o:Obj} (hb:b∈fp) (e:h.get? b=some o):(b,o)∈HG fp h:=oS.mpr ⟨b,hb,by rw[e];rfl⟩
theorem Se {fp:List Addr}{h:Heap}{p:Addr×Obj} (hp:p∈HG fp h):p.1∈fp∧h.get? p.1=some p.2:=by
 obtain⟨b,hb,e⟩:=oS.mp hp
 cases q:h.get? b with
 | none=>rw[q] at e;cases e
 | some o=>
   rw[q] at e
   have e':(b,o)=p:=aa e
   subst e'
   exact⟨hb,q⟩
theorem Inv.pinned {pins:List (Addr×Obj)}{σ:St}{H:Hp}{s:Shared}{fp:List Addr} (I:Inv X pins σ H s) (hf:∀ b∈fp,KA X pins H b) (ho:∀ b∈fp,∃ o,s.heap.get? b=some o∧∀ v,o.data≠.cell v):Inv X (pins++HG fp s.heap) σ H s:=
 I.Rb fun p hp=>(az.mp hp).elim (fun z=>I.pin p (aO _ z)) fun z=>by
  obtain⟨hb,e⟩:=Se z
  obtain⟨f0,f1,f2,_⟩:=hf p.1 hb
  obtain⟨o,e',d⟩:=ho p.1 hb
  rw[e] at e';cases e'
  exact⟨e,f0,f1,f2,d⟩
theorem Inv.B7 {pins pl:List (Addr×Obj)}{σ:St}{H:Hp}{s:Shared} (I:Inv X (pins++pl) σ H s):Inv X pins σ H s:=I.Rb fun p hp=>I.pin p (aO _ (aQ _ hp))
theorem iW {iter:Expr}{body:List Stmt}{wi:TI}{g:TG}{tb:TS}{pos:Pos} (hp:PassesOwn (model X.prog X.w) X.A X.env X.xe) (hc:X.calm=true) (hi:PI X tg iter wi) (hg:PG X tg g) (hb:PSs X body tb)
 (hs:∀ x,foldedSetIterable iter X.env x=pure x:=by intro _;rfl):PS X (.For tg iter body [] pos) (aaM wi g tb):=by
 intro pins s σ H D I h
 refine wpAny_For (thn (hi pins s σ H _ I h) fun v s1 h1=>thn h1 fun itv s2 h2=>?_) hs
 obtain⟨it,fp,tn,J,H2,e,I2,T,st2,f2,W,⟨m0,w0⟩,turn⟩:=h2
 subst e
 have P1:∀ {H':Hp},(∀ b∈fp,H' b=none)→∀ b∈fp,KA X pins H' b:=fun hn b hb=>⟨hn b hb,(f2 b hb).2⟩
 refine codeAny_forLoop_any (fun n s'=>∃ i σ' H',Inv X pins σ' H' s'∧tn i s'.heap∧(∀ b∈fp,H' b=none)∧W i n σ' H') ?_ m0 ⟨0,σ,H2,I2,st2,fun b hb=>(f2 b hb).1,w0⟩
 rintro n s3 ⟨i,σ3,H3,I3,st3,fr3,w3⟩
 rcases turn i n σ3 H3 w3 with ⟨stop,qn⟩ | ⟨go,N,hN,step⟩
 ·refine l7 hp (thn (T.done X rfl rfl rfl hc i pins s3 σ3 H3 X.xe I3 (P1 fr3) st3 stop) fun r s4 ⟨hr,I4⟩=>?_)
  subst hr
  exact uQ ⟨σ3,H3,I4,qn⟩
 ·refine l7 hp (thn (T.item X rfl rfl rfl hc i pins s3 σ3 H3 X.xe I3 (P1 fr3) st3 go) fun r s4 ⟨u,hr,h4⟩=>?_)
  subst hr
  refine l7 hp (thn h4 fun _ s5 ⟨x,H5,I5,r5,y5,st5,fr5⟩=>?_)
  have I5':=I5.pinned (P1 fr5) (T.obj _ _ st5)
  refine l7 hp (thn (hg _ s5 σ3 H5 x u _ I5' r5 (step x H5 y5)) fun _ s6 ⟨σ6,H6,I6,q6⟩=>?_)
  refine l7 hp (thn (hb _ s6 σ6 H6 _ I6 q6) fun f s7 q7=>?_)
  have again:∀ {σ7:St}{H7:Hp},Inv X (pins++HG fp s5.heap) σ7 H7 s7→N σ7 H7→∃ m,m < n∧∃ i σ' H',Inv X pins σ' H' s7∧tn i s7.heap∧(∀ b∈fp,H' b=none)∧W i m σ' H':=fun {σ7 H7} I7 n7=>by
   obtain⟨m',hm,w7⟩:=hN σ7 H7 n7
   refine⟨m',hm,i+1,σ7,H7,I7.B7,T.keep _ _ _ st5 fun b hb o e=>(I7.pin (b,o) (aO _ (aO _ (BD hb e)))).1,fun b hb=>?_,w7⟩
   obtain⟨o,e,d⟩:=T.obj _ _ st5 b hb
   exact(I7.pin (b,o) (aO _ (aO _ (BD hb e)))).2.1
  cases f with
  | next=>obtain⟨σ7,H7,I7,n7⟩:=q7;exact again I7 n7
  | cont=>obtain⟨σ7,H7,I7,n7⟩:=q7;exact again I7 n7
  | brk=>obtain⟨σ7,H7,I7,q7⟩:=q7;exact⟨σ7,H7,I7.B7,q7⟩
  | ret v=>obtain⟨x7,σ7,H7,I7,r7,q7⟩:=q7;exact⟨x7,σ7,H7,I7.B7,r7,q7⟩
end
theorem mI {K:ai}{a:Addr}{xs:List V}{g:TG}{tb:TS}{D:Ends}{σ:St}{H:Hp} (Pv:Nat→St→Hp→Prop) (h0:Pv 0 σ H) (hl:∀ i σ H,i≤xs.length→Pv i σ H→SqL K H a xs)
 (hs:∀ i x σ H,xs[i]?=some x→Pv i σ H→g x σ H fun σ2 H2=>tb { D with nx:=Pv (i+1),ct:=Pv (i+1),bk:=D.nx } σ2 H2) (hd:∀ σ H,Pv xs.length σ H→D.nx σ H):
 ∃ W:Nat→Nat→St→Hp→Prop,(∃ m,W 0 m σ H)∧∀ i m σ H,W i m σ H→
   ((Itl K a).stop i H∧D.nx σ H)∨((Itl K a).go i H∧∃ N:St→Hp→Prop,(∀ σ' H',N σ' H'→∃ m',m' < m∧W (i+1) m' σ' H')∧∀ x H',(Itl K a).yld i H x H'→g x σ H' fun σ2 H2=>tb { D with nx:=N,ct:=N,bk:=D.nx } σ2 H2):=by
 refine⟨fun i m σ H=>m=xs.length - i∧i≤xs.length∧Pv i σ H,⟨xs.length,by simp,aT _,h0⟩,?_⟩
 rintro i m σ H ⟨rfl,hi,p⟩
 have q:=hl i σ H hi p
 by_cases hlt:i < xs.length
 ·refine .inr ⟨⟨xs,xs[i],q,by simp[hlt]⟩,Pv (i+1),fun σ' H' p'=>⟨xs.length - (i+1),by omega,rfl,hlt,p'⟩,fun x H' y=>?_⟩
  obtain⟨e,y⟩:=y
  subst e
  exact hs i x σ _ (y xs q) p
 ·have e:i=xs.length:=by omega
  subst e
  exact .inl ⟨⟨xs,q,aB _⟩,hd σ H p⟩
theorem GP {K:ai}{a:Addr}{xs:List V}{g:TG}{tb:TS}{D:Ends}{σ:St}{H:Hp} (Pv:Nat→St→Hp→Prop) (h0:Pv 0 σ H) (hl:∀ i σ H,i≤xs.length→Pv i σ H→SqT K H a xs)
 (hs:∀ i x σ H,xs[i]?=some x→Pv i σ H→g x σ H fun σ2 H2=>tb { D with nx:=Pv (i+1),ct:=Pv (i+1),bk:=D.nx } σ2 H2) (hd:∀ σ H,Pv xs.length σ H→D.nx σ H):
 ∃ W:Nat→Nat→St→Hp→Prop,(∃ m,W 0 m σ H)∧∀ i m σ H,W i m σ H→
   ((Itt K a).stop i H∧D.nx σ H)∨((Itt K a).go i H∧∃ N:St→Hp→Prop,(∀ σ' H',N σ' H'→∃ m',m' < m∧W (i+1) m' σ' H')∧∀ x H',(Itt K a).yld i H x H'→g x σ H' fun σ2 H2=>tb { D with nx:=N,ct:=N,bk:=D.nx } σ2 H2):=by
 refine⟨fun i m σ H=>m=xs.length - i∧i≤xs.length∧Pv i σ H,⟨xs.length,by simp,aT _,h0⟩,?_⟩
 rintro i m σ H ⟨rfl,hi,p⟩
 have q:=hl i σ H hi p
 by_cases hlt:i < xs.length
 ·refine .inr ⟨⟨xs,xs[i],q,by simp[hlt]⟩,Pv (i+1),fun σ' H' p'=>⟨xs.length - (i+1),by omega,rfl,hlt,p'⟩,fun x H' y=>?_⟩
  obtain⟨e,y⟩:=y
  subst e
  exact hs i x σ _ (y xs q) p
 ·have e:i=xs.length:=by omega
  subst e
  exact .inl ⟨⟨xs,q,aB _⟩,hd σ H p⟩
theorem ET {lo:Int}{n:Nat}{g:TG}{tb:TS}{D:Ends}{σ:St}{H:Hp} (Pv:Nat→St→Hp→Prop) (h0:Pv 0 σ H)
 (hs:∀ i σ H,i < n→Pv i σ H→g (.int (lo+i)) σ H fun σ2 H2=>tb { D with nx:=Pv (i+1),ct:=Pv (i+1),bk:=D.nx } σ2 H2) (hd:∀ σ H,Pv n σ H→D.nx σ H):
 ∃ W:Nat→Nat→St→Hp→Prop,(∃ m,W 0 m σ H)∧∀ i m σ H,W i m σ H→
   ((Itr lo n).stop i H∧D.nx σ H)∨((Itr lo n).go i H∧∃ N:St→Hp→Prop,(∀ σ' H',N σ' H'→∃ m',m' < m∧W (i+1) m' σ' H')∧∀ x H',(Itr lo n).yld i H x H'→g x σ H' fun σ2 H2=>tb { D with nx:=N,ct:=N,bk:=D.nx } σ2 H2):=by
 refine⟨fun i m σ H=>m=n - i∧i≤n∧Pv i σ H,⟨n,by simp,aT _,h0⟩,?_⟩
 rintro i m σ H ⟨rfl,hi,p⟩
 by_cases hlt:i < n
 ·refine .inr ⟨hlt,Pv (i+1),fun σ' H' p'=>⟨n - (i+1),by omega,rfl,hlt,p'⟩,fun x H' y=>?_⟩
  obtain⟨e,y⟩:=y
  subst e y
  exact hs i σ _ hlt p
 ·have e:i=n:=by omega
  subst e
  exact .inl ⟨aB _,hd σ H p⟩
end L2
namespace L2
open PySem PySem.Spec PyProof.Rows
abbrev R2:=V→V→Hp→VK→Prop
def OpR (X:Cx) (f:Value→Value→Sem Value) (r:R2):Prop:=
 ∀ (pins:List (Addr×Obj)) (s:Shared) (σ:St) (H:Hp) (x y:V) (v u:Value) (Q:VK),Inv X pins σ H s→RelV x v→RelV y u→r x y H Q→
   wpAny (model X.prog X.w) X.A (f v u) (EP X pins σ Q) X.xe s
def FA (X:Cx) (f:Value) (r:List V→Hp→VK→Prop):Prop:=
 ∀ (pins:List (Addr×Obj)) (s:Shared) (σ:St) (H:Hp) (xs:List V) (us:List Value) (Q:VK),Inv X pins σ H s→Vals xs us→r xs H Q→
   wpAny (model X.prog X.w) X.A (call f us) (EP X pins σ Q) X.xe s
def tOp (r:R2) (ta tb:TE):TE:=fun σ H Q=>ta σ H fun x H1=>tb σ H1 fun y H2=>r x y H2 Q
inductive W4 (g:Int→Int→V) (x y:V) (H:Hp) (Q:VK):Prop | mk (i j:Int) (_:x=.int i) (_:y=.int j) (_:Q (g i j) H):W4 g x y H Q
def rI0 (g:Int→Int→V):R2:=fun x y H Q=>W4 g x y H Q
section
variable {X:Cx}{a b c:Expr}{ta tb tc:TE}{pos:Pos}
theorem Yt (ha:PE X a ta) (hb:PE X b tb) {pins:List (Addr×Obj)}{s:Shared}{σ:St}{H:Hp}{R:V→V→Hp→Prop} (I:Inv X pins σ H s)
 (h:ta σ H fun x H1=>tb σ H1 fun y H2=>R x y H2) {Q:Value→Shared→Prop}{f:Value→Value→Sem Value}
 (hf:∀ v u s2 x y H2,Inv X pins σ H2 s2→RelV x v→RelV y u→R x y H2→wpAny (model X.prog X.w) X.A (f v u) Q X.xe s2):
 wpAny (model X.prog X.w) X.A (eval a X.env) (fun v s₁=>wpAny (model X.prog X.w) X.A (eval b X.env) (fun u s₂=>wpAny (model X.prog X.w) X.A (f v u) Q X.xe s₂) X.xe s₁) X.xe s:=by
 refine thn (ha pins s σ H _ I h) fun v s1 ⟨x,H1,I1,r1,q1⟩=>?_
 refine thn (hb pins s1 σ H1 _ I1 q1) fun u s2 ⟨y,H2,I2,r2,q2⟩=>?_
 exact hf v u s2 x y H2 I2 r1 r2 q2
theorem i4 {op:Operator}{r:R2} (ho:OpR X (binaryOp op) r) (ha:PE X a ta) (hb:PE X b tb):PE X (.BinOp a op b pos) (tOp r ta tb):=by
 intro pins s σ H Q I h
 exact wpAny_BinOp (Yt ha hb I h fun v u s2 x y H2 I2 rx ry q=>ho pins s2 σ H2 x y v u Q I2 rx ry q)
theorem Y9 {f:Value→Value→Sem Value}{g:Int→Int→Int}
 (rule:∀ (i j:Int) (t u:Tok) (s:Shared) (Q:Value→Shared→Prop) (E:Value→Shared→Prop),Q (.int (g i j) s.toks) { s with toks:=s.toks+1 }→wpAny (model X.prog X.w) X.A (f (.int i t) (.int j u)) Q E s):
 OpR X f (rI0 fun i j=>.int (g i j)):=by
 intro pins s σ H x y v u Q I rx ry h
 obtain⟨i,j,rfl,rfl,q⟩:=h
 obtain⟨t,rfl⟩:=rx
 obtain⟨t',rfl⟩:=ry
 exact rule i j t t' s _ _ ⟨.int (g i j),H,I.tok _,⟨_,rfl⟩,q⟩
theorem VQ {f:Value→Value→Sem Value}{g:Int→Int→Bool}
 (rule:∀ (i j:Int) (t u:Tok) (s:Shared) (Q:Value→Shared→Prop) (E:Value→Shared→Prop),Q (.bool (g i j)) s→wpAny (model X.prog X.w) X.A (f (.int i t) (.int j u)) Q E s):
 OpR X f (rI0 fun i j=>.bl (g i j)):=by
 intro pins s σ H x y v u Q I rx ry h
 obtain⟨i,j,rfl,rfl,q⟩:=h
 obtain⟨t,rfl⟩:=rx
 obtain⟨t',rfl⟩:=ry
 exact rule i j t t' s _ _ ⟨.bl (g i j),H,I,rfl,q⟩
theorem pF:OpR X (binaryOp .Add) (rI0 fun i j=>.int (i+j)):=Y9 fun _ _ _ _ _ _ _ q=>add_int q
theorem HN:OpR X (binaryOp .Sub) (rI0 fun i j=>.int (i - j)):=Y9 fun _ _ _ _ _ _ _ q=>sub_int q
end
def YZ:V→V→Bool
 | .non,.non=>true | .non,.int _=>true | .int _,.non=>true | .non,.bl _=>true | .bl _,.non=>true | .non,.str _=>true | .str _,.non=>true
 | .int _,.int _=>true | .bl _,.bl _=>true | .str _,.str _=>true | .byt _,.byt _=>true
 | .int _,.str _=>true | .str _,.int _=>true | .bl _,.str _=>true | .str _,.bl _=>true
 | _,_=>false
def rEq:R2:=fun x y H Q=>YZ x y=true∧Q (.bl (decide (x=y))) H
def rNe:R2:=fun x y H Q=>YZ x y=true∧Q (.bl (!decide (x=y))) H
theorem Rz {i j:Int}:decide (V.int i=V.int j)=(i == j):=by
 rw[i8]
 simp
theorem U0 {i j:Bool}:decide (V.bl i=V.bl j)=(i == j):=by
 rw[i8]
 simp
theorem Ry {i j:Str}:decide (V.str i=V.str j)=(i == j):=by
 rw[i8]
 simp
theorem RA {i j:Array UInt8}:decide (V.byt i=V.byt j)=(i.toList == j.toList):=by
 rw[i8]
 cases i
 cases j
 simp
section
variable {X:Cx}{a b c:Expr}{ta tb tc:TE}{pos:Pos}
theorem dI {pins:List (Addr×Obj)}{σ:St}{H:Hp}{s:Shared}{Q:VK}{k k':Bool} (I:Inv X pins σ H s) (q:Q (.bl k) H) (e:k=k'):EP X pins σ Q (.bool k') s:=by
 subst e
 exact⟨.bl k,H,I,rfl,q⟩
theorem fe:OpR X (compareOp .Eq) rEq:=by
 intro pins s σ H x y v u Q I rx ry h
 obtain⟨hs,q⟩:=h
 cases x with
 | non=>
   cases rx
   cases y with
   | non=>cases ry;exact PySem.EqNone.eq_none_none (dI I q (by simp))
   | bl j=>cases ry;exact PySem.EqNone.eq_none_bool (dI I q (by simp))
   | int j=>obtain⟨t',rfl⟩:=ry;exact PySem.EqNone.eq_none_int (dI I q (by simp))
   | str j=>obtain⟨t',rfl⟩:=ry;exact PySem.EqNone.eq_none_str (dI I q (by simp))
   | _=>exact absurd (show false=true from hs) aZ
 | bl i=>
   cases rx
   cases y with
   | non=>cases ry;exact PySem.EqNone.eq_bool_none (dI I q (by simp))
   | bl j=>cases ry;exact eq_bool (dI I q U0)
   | str j=>obtain⟨t',rfl⟩:=ry;exact PySem.EqMixed.eq_bool_str (dI I q (by simp))
   | _=>exact absurd (show false=true from hs) aZ
 | int i=>
   obtain⟨t,rfl⟩:=rx
   cases y with
   | non=>cases ry;exact PySem.EqNone.eq_int_none (dI I q (by simp))
   | int j=>obtain⟨t',rfl⟩:=ry;exact eq_int (dI I q Rz)
   | str j=>obtain⟨t',rfl⟩:=ry;exact PySem.EqMixed.eq_int_str (dI I q (by simp))
   | _=>exact absurd (show false=true from hs) aZ
 | str i=>
   obtain⟨t,rfl⟩:=rx
   cases y with
   | non=>cases ry;exact PySem.EqNone.eq_str_none (dI I q (by simp))
   | bl j=>cases ry;exact PySem.EqMixed.eq_str_bool (dI I q (by simp))
   | int j=>obtain⟨t',rfl⟩:=ry;exact PySem.EqMixed.eq_str_int (dI I q (by simp))
   | str j=>obtain⟨t',rfl⟩:=ry;exact eq_str (dI I q Ry)
   | _=>exact absurd (show false=true from hs) aZ
 | byt i=>
   obtain⟨t,rfl⟩:=rx
   cases y with
   | byt j=>obtain⟨t',rfl⟩:=ry;exact PySem.W.eq_bytes (dI I q RA)
   | _=>exact absurd (show false=true from hs) aZ
 | _=>cases y<;>exact absurd (show false=true from hs) aZ
theorem Y8:OpR X (compareOp .NotEq) rNe:=by
 intro pins s σ H x y v u Q I rx ry h
 obtain⟨hs,q⟩:=h
 cases x with
 | non=>
   cases rx
   cases y with
   | non=>cases ry;exact PySem.EqNone.ne_none_none (dI I q (by simp))
   | bl j=>cases ry;exact PySem.EqNone.ne_none_bool (dI I q (by simp))
   | int j=>obtain⟨t',rfl⟩:=ry;exact PySem.EqNone.ne_none_int (dI I q (by simp))
   | str j=>obtain⟨t',rfl⟩:=ry;exact PySem.EqNone.ne_none_str (dI I q (by simp))
   | _=>exact absurd (show false=true from hs) aZ
 | bl i=>
   cases rx
   cases y with
   | non=>cases ry;exact PySem.EqNone.ne_bool_none (dI I q (by simp))
   | bl j=>cases ry;exact ne_bool (dI I q (congrArg not U0))
   | str j=>obtain⟨t',rfl⟩:=ry;exact PySem.EqMixed.ne_bool_str (dI I q (by simp))
   | _=>exact absurd (show false=true from hs) aZ
 | int i=>
   obtain⟨t,rfl⟩:=rx
   cases y with
   | non=>cases ry;exact PySem.EqNone.ne_int_none (dI I q (by simp))
   | int j=>obtain⟨t',rfl⟩:=ry;exact ne_int (dI I q (congrArg not Rz))
   | str j=>obtain⟨t',rfl⟩:=ry;exact PySem.EqMixed.ne_int_str (dI I q (by simp))
   | _=>exact absurd (show false=true from hs) aZ
 | str i=>
   obtain⟨t,rfl⟩:=rx
   cases y with
   | non=>cases ry;exact PySem.EqNone.ne_str_none (dI I q (by simp))
   | bl j=>cases ry;exact PySem.EqMixed.ne_str_bool (dI I q (by simp))
   | int j=>obtain⟨t',rfl⟩:=ry;exact PySem.EqMixed.ne_str_int (dI I q (by simp))
   | str j=>obtain⟨t',rfl⟩:=ry;exact ne_str (dI I q (congrArg not Ry))
   | _=>exact absurd (show false=true from hs) aZ
 | byt i=>
   obtain⟨t,rfl⟩:=rx
   cases y with
   | byt j=>obtain⟨t',rfl⟩:=ry;exact PySem.W.ne_bytes (dI I q (congrArg not RA))
   | _=>exact absurd (show false=true from hs) aZ
 | _=>cases y<;>exact absurd (show false=true from hs) aZ
theorem Ff:OpR X (compareOp .Lt) (rI0 fun i j=>.bl (decide (i < j))):=VQ fun _ _ _ _ _ _ _ q=>lt_int q
theorem TN:OpR X (compareOp .LtE) (rI0 fun i j=>.bl (decide (i≤j))):=VQ fun _ _ _ _ _ _ _ q=>le_int q
theorem ve:OpR X (compareOp .Gt) (rI0 fun i j=>.bl (decide (j < i))):=VQ fun _ _ _ _ _ _ _ q=>gt_int q
theorem WK:OpR X (compareOp .GtE) (rI0 fun i j=>.bl (decide (j≤i))):=VQ fun _ _ _ _ _ _ _ q=>ge_int q
theorem HQ:OpR X (compareOp .Is) (fun x y H Q=>y=.non∧Q (.bl (decide (x=.non))) H):=by
 intro pins s σ H x y v u Q I rx ry h
 obtain⟨rfl,q⟩:=h
 cases ry
 refine is_none_gen (dI I q ?_)
 cases x<;>first
  | (cases rx;rfl)
  | (obtain⟨t,rfl⟩:=rx;rfl)
theorem VP:OpR X (compareOp .IsNot) (fun x y H Q=>y=.non∧Q (.bl (!decide (x=.non))) H):=by
 intro pins s σ H x y v u Q I rx ry h
 obtain⟨rfl,q⟩:=h
 cases ry
 refine isnot_none_gen (dI I q ?_)
 cases x<;>first
  | (cases rx;rfl)
  | (obtain⟨t,rfl⟩:=rx;rfl)
theorem bL (b:Expr) {op:CmpOp} (h:op≠.In:=by decide) (h2:op≠.NotIn:=by decide):behindInMarks op b=false:=by
 have e1:(op == CmpOp.In)=false:=by cases op<;>first | rfl | exact absurd rfl h
 have e2:(op == CmpOp.NotIn)=false:=by cases op<;>first | rfl | exact absurd rfl h2
 cases b<;>simp[behindInMarks,e1,e2]
theorem Mu {op:CmpOp}{r:R2} (ho:OpR X (compareOp op) r) (ha:PE X a ta) (hb:PE X b tb) (hm:behindInMarks op b=false):PE X (.Compare a [op] [b] pos) (tOp r ta tb):=by
 intro pins s σ H Q I h
 exact wpAny_Compare1 (Yt ha hb I h fun v u s2 x y H2 I2 rx ry q=>ho pins s2 σ H2 x y v u Q I2 rx ry q) hm
def YN (t:TE):TT:=fun σ H Q=>t σ H fun x H'=>YE x H' Q
theorem bo {op:CmpOp}{r:R2} (ho:OpR X (compareOp op) r) (ha:PE X a ta) (hb:PE X b tb) (hm:behindInMarks op b=false):PT X (.Compare a [op] [b] pos) (YN (tOp r ta tb)):=by
 intro pins s σ H Q I h
 refine wpAny_isTrue_Compare1 (thn (ha pins s σ H _ I h) fun v s1 ⟨x,H1,I1,r1,q1⟩=>thn (hb pins s1 σ H1 _ I1 q1) fun u s2 ⟨y,H2,I2,r2,q2⟩=>
  thn (ho pins s2 σ H2 x y v u _ I2 r1 r2 q2) fun c s3 ⟨z,H3,I3,r3,k,e,q3⟩=>?_) hm
 subst e
 cases r3
 exact za ⟨H3,I3,q3⟩
theorem MN:(sizeLine:Nat) < 2 ^ 63:=by rw[sizeLine_eq];decide
theorem vals1 {x:V}{us:List Value} (r:Vals [x] us):∃ u,us=[u]∧RelV x u:=by
 cases r with
 | cons r1 r2=>cases r2;exact⟨_,rfl,r1⟩
theorem vals2 {x y:V}{us:List Value} (r:Vals [x,y] us):∃ u w',us=[u,w']∧RelV x u∧RelV y w':=by
 cases r with
 | cons r1 r2=>
   cases r2 with
   | cons r3 r4=>cases r4;exact⟨_,_,rfl,r1,r3⟩
theorem SK (hc:X.calm=true):FA X (.builtin "max") (fun xs H Q=>∃ i j,xs=[.int i,.int j]∧Q (.int (if j > i then j else i)) H):=by
 intro pins s σ H xs us Q I r h
 obtain⟨i,j,rfl,q⟩:=h
 obtain⟨u,w',rfl,⟨t,rfl⟩,⟨t',rfl⟩⟩:=vals2 r
 refine max_two_ints (I.ok.hd hc) fun h' tk k=>⟨_,H,I.kept k,?_,q⟩
 by_cases hj:j > i
 ·rw[if_pos hj,if_pos hj];exact⟨_,rfl⟩
 ·rw[if_neg hj,if_neg hj];exact⟨_,rfl⟩
end
end L2
namespace L2
open PySem PySem.Spec PyProof.Rows
structure QS (h:Heap) (x dx C:Addr) (mA:Str→Option Value):Prop where
 obj:h.get? x=some (iU C dx)
 ns:h.Ns1 dx mA
 ne:dx≠x
theorem Sl {h:Heap}{dx:Addr}{mA:Str→Option Value} (n:h.Ns1 dx mA):∃ od,h.get? dx=some od∧∀ name,zq name od=some (mA name):=by
 obtain⟨o,es,ep,ho,hd,hk,_,hm⟩:=n
 refine⟨o,ho,fun name=>?_⟩
 have e:=hm name
 unfold nsFind findBy at e
 rw[← Array.find?_toList] at e
 unfold zq
 rw[hd]
 dsimp only
 split
 ·rename_i y q
  rw[q] at e
  exact congrArg some e
 ·rename_i q
  rw[q] at e
  have a:es.toList.any (·.refKey)=false:=by
   rw[List.any_eq_false]
   intro y hy
   obtain⟨z,t,UB⟩:=hk y (Array.mem_toList_iff.mp hy)
   simp[DictEntry.refKey,UB]
  have a':¬ es.toList.any (·.refKey)=true:=by rw[a];exact aZ
  rw[if_neg a']
  exact congrArg some e
theorem QS.look {h:Heap}{x dx C:Addr}{mA:Str→Option Value} (I:QS h x dx C mA):∃ od,PySem.W.InstAt h x (iU C dx) C (some od)∧∀ name,zq name od=some (mA name):=
 let ⟨od,ho,hl⟩:=Sl I.ns
 ⟨od,⟨I.obj,rfl,rfl,ho⟩,hl⟩
section
variable {prog:Program}{w:World}{A:Around}{E:Value→Shared→Prop}{s:Shared}{K:ai}{x dx C f:Addr}{mA:Str→Option Value}{name:Str}{v:Value}
theorem get_map {expr:Bool}{Q:Value→Shared→Prop} (X:K.In s.heap) (I:QS s.heap x dx C mA) (hg:wc K C name=true) (hh:DX K C=true)
 (ha:bC K (.ref C) name=some none) (hv:mA name=some v) (hv':PySem.W.handedIn v=true) (h:Q v { s with toks:=s.toks+1 }):
 wpAny (model prog w) A (getAttr (.ref x) name expr) Q E s:=by
 obtain⟨od,J,hl⟩:=I.look
 exact PySem.W.get_value X J (AS hg).1 (PySem.W.findObj_own hh ha rfl (by rw[hl,hv])) hv' h
theorem UO {pl:Sem Bool}{Q:Value×List Value→Shared→Prop} (X:K.In s.heap) (I:QS s.heap x dx C mA) (hg:wc K C name=true)
 (hf:bC K (.ref C) name=some (some (.ref f))) (ht:DW K (.ref f)=true) (hv:mA name=none) (h:Q (.ref f,[.ref x]) s):
 wpAny (model prog w) A (getMethod (.ref x) name pl) Q E s:=by
 obtain⟨od,J,hl⟩:=I.look
 exact PySem.W.method_fn X J (AS hg).1 (AS hg).2 hf (beq_iff_eq.mp ht) (by show(zq name od).map (·.isSome)=some false;rw[hl,hv];rfl) h
theorem VE {ns:List Str}{Q:Unit→Shared→Prop} (X:K.In s.heap) (I:QS s.heap x dx C mA)
 (hs:bC K (.ref C) "__setattr__"=some (some (.builtin "object.__setattr__"))) (hp:PySem.W.plainOver K C=true) (ht:PySem.W.takerIn K C name=some none) (hh:DX K C=true)
 (hw:PySem.Within mA ns) (hsz:ns.length≤sizeLine)
 (h:∀ h',QS h' x dx C (fun y=>if y=name then some v else mA y)→Heap.SameBut dx s.heap h'→Q () { s with heap:=h',toks:=s.toks+2 }):
 wpAny (model prog w) A (setAttr (.ref x) name v) Q E s:=by
 obtain⟨od,J,hl⟩:=I.look
 refine PySem.W.set_plain X J hs (PySem.W.osa_open (s:={ s with toks:=s.toks+1 }) (r:=none) X J hp ht fun b=>?_)
 obtain⟨cd,hc,hd'⟩:=PySem.W.any_some hh
 have hx:s.heap.get? x=some ⟨.ref C,some dx,.plain,#[]⟩:=I.obj
 refine ao (aS (ao (ao (wpAny_loadPart hx (ao (PySem.W.Looks.here (s:={ s with toks:=s.toks+1 }) (PySem.W.looks_clsIn X hc) ?_))))))
 rw[hd']
 refine aS (a:=some dx) (ao (aS (ao ?_)))
 refine wpAny_nsSet1 (s:={ s with toks:=s.toks+1 }) I.ns fun h' hn2 hs2=>?_
 obtain⟨oD,esD,epD,hoD,hdD,hcD⟩:=hn2.count (PySem.Within.cons name v hw)
 refine ao (wpAny_lookBehind hoD (by rw[hdD];exact pastItsLine_dict (bP hcD (by rw[aM];omega))) ?_)
 exact aS (h _ ⟨(hs2.2 _ (br I.ne)).trans I.obj,hn2,I.ne⟩ hs2)
theorem T3 {R:Result→Shared→Prop}{vs:List Value}{kw:List (Str×Value)} (X:K.In s.heap) (hm:PySem.W.makesIn K C=true)
 (hi:bC K (.ref C) "__init__"=some (some (.ref f))) (hf:PySem.W.typeIn K (.ref f)=some (.type "function"))
 (h:codeAny (model prog w) (A.under (.builtin "type.__call__" ⟨.ref C::vs,kw⟩)) (.call (.ref f) ⟨.ref (s.heap.objs.size+1)::vs,kw⟩) (PySem.W.InitBack (s.heap.objs.size+1) R)
   { s with heap:=(s.heap.push eA).push (iU C s.heap.objs.size) }):
 codeAny (model prog w) A (.call (.ref C) ⟨vs,kw⟩) R s:=by
 obtain⟨hh,g,d,t,os⟩:=s
 exact PySem.W.make_core (PySem.W.makes_of X hm) (PySem.W.looks_findIn X hi) (fun self=>PySem.W.bind_fn X self hf) (.inl rfl) h
end
def zM (f:Str) (v:V):List (Str×V)→List (Str×V)
 | []=>[(f,v)]
 | (g,x)::r=>if g=f then (g,v)::r else (g,x)::zM f v r
theorem Fl (f g:Str) (v:V):∀ fs:List (Str×V),(zM f v fs).lookup g=if g=f then some v else fs.lookup g
 | []=>by
   show oU g [(f,v)]=_
   by_cases h:g=f
   ·have hb:(g == f)=true:=beq_iff_eq.mpr h
    simp only[oU,hb,if_pos h]
   ·have hb:(g == f)=false:=beq_eq_false_iff_ne.mpr h
    simp only[oU,hb,if_neg h]
 | (k,x)::r=>by
   have ih:=Fl f g v r
   rw[show zM f v ((k,x)::r)=(if k=f then (k,v)::r else (k,x)::zM f v r) from rfl]
   by_cases hk:k=f
   ·rw[if_pos hk]
    by_cases h:g=k
    ·have hb:(g == k)=true:=beq_iff_eq.mpr h
     simp only[oU,hb,if_pos (h.trans hk)]
    ·have hb:(g == k)=false:=beq_eq_false_iff_ne.mpr h
     simp only[oU,hb,if_neg (fun e:g=f=>h (e.trans hk.symm))]
   ·rw[if_neg hk]
    by_cases h:g=k
    ·have hb:(g == k)=true:=beq_iff_eq.mpr h
     simp only[oU,hb,if_neg (fun e:g=f=>hk (h.symm.trans e))]
    ·have hb:(g == k)=false:=beq_eq_false_iff_ne.mpr h
     simp only[oU,hb]
     exact ih
theorem EM (f:Str) (v:V):∀ fs:List (Str×V),f∈(zM f v fs).map (·.1)∧∀ g,g∈fs.map (·.1)→g∈(zM f v fs).map (·.1)
 | []=>⟨by simp[zM],fun g h=>by simp at h⟩
 | (k,x)::r=>by
   obtain⟨i1,i2⟩:=EM f v r
   rw[show zM f v ((k,x)::r)=(if k=f then (k,v)::r else (k,x)::zM f v r) from rfl]
   by_cases hk:k=f
   ·rw[if_pos hk]
    subst hk
    exact⟨by simp,fun g h=>by simpa using h⟩
   ·rw[if_neg hk]
    refine⟨?_,fun g h=>?_⟩
    ·rw[aU]
     exact aG _ i1
    ·rw[aU] at h ⊢
     rcases aC.mp h with e | e
     ·exact aC.mpr (.inl e)
     ·exact aG _ (i2 g e)
theorem Fm (f:Str) (v:V):∀ fs:List (Str×V),(zM f v fs).length≤fs.length+1
 | []=>by simp[zM]
 | (k,x)::r=>by
   have ih:=Fm f v r
   rw[show zM f v ((k,x)::r)=(if k=f then (k,v)::r else (k,x)::zM f v r) from rfl]
   by_cases hk:k=f
   ·rw[if_pos hk,aM,aM];omega
   ·rw[if_neg hk,aM,aM];omega
theorem xP.some_of {v:V}{o:Option Value} (r:xP (some v) o):∃ u,o=some u∧RelV v u:=by
 cases o with
 | none=>exact(show False from r).elim
 | some u=>exact⟨u,rfl,r⟩
theorem xP.none_of {o:Option Value} (r:xP none o):o=none:=by
 cases o with
 | none=>rfl
 | some u=>exact(show False from r).elim
theorem Sv {v:V}{u:Value} (r:RelV v u):PySem.W.handedIn u=true:=by
 cases v with
 | non=>cases (show u=Value.none from r);rfl
 | bl b=>cases (show u=Value.bool b from r);rfl
 | int i=>obtain⟨t,e⟩:=(show ∃ t,u=Value.int i t from r);cases e;rfl
 | str x=>obtain⟨t,e⟩:=(show ∃ t,u=Value.str x t from r);cases e;rfl
 | byt b=>obtain⟨t,e⟩:=(show ∃ t,u=Value.bytes b t from r);cases e;rfl
 | flt b=>obtain⟨t,e⟩:=(show ∃ t,u=Value.float b t from r);cases e;rfl
 | ref a=>cases (show u=Value.ref a from r);rfl
 | ty n=>cases (show u=Value.type n from r);rfl
section
variable {P:Program}{w:World}{H H':Hp}{h h':Heap}{a C dx:Addr}{fs fs':List (Str×V)}
theorem MP (hok:HOk P w H h) (e:H a=some (.ins C dx fs)):∃ mA,QS h a dx C mA∧(∀ f,xP (fs.lookup f) (mA f))∧PySem.Within mA (fs.map (·.1))∧fs.length≤1000∧H dx=some (.own a):=by
 obtain⟨d,z,ne,ob,mA,n,r,q⟩:=(show i5 P w H h a (.ins C dx fs) from hok a _ e)
 exact⟨mA,⟨ob,n,ne⟩,r,q,z,d⟩
end
structure Cls (K:ai) (C:Addr):Prop where
 pg:wc K C Str.empty=true
 hd:DX K C=true
 po:PySem.W.plainOver K C=true
 sa:bC K (.ref C) "__setattr__"=some (some (.builtin "object.__setattr__"))
theorem Cls.get {K:ai}{C:Addr} (c:Cls K C) (f:Str):wc K C f=true:=c.pg
def gp (K:ai) (C:Addr) (f:Str):Prop:=bC K (.ref C) f=some none
theorem gp.YM {K:ai}{C:Addr}{f:Str} (n:gp K C f):PySem.W.takerIn K C f=some none:=by
 unfold PySem.W.takerIn
 rw[show bC K (.ref C) f=some none from n]
 rfl
structure Meth (K:ai) (C:Addr) (m:Str) (f:Addr):Prop where
 at_:bC K (.ref C) m=some (some (.ref f))
 fn:DW K (.ref f)=true
 kp:oT K (.ref f)=true
section
variable {X:Cx}{pins:List (Addr×Obj)}{σ:St}{H:Hp}{s:Shared}{a C dx:Addr}{fs:List (Str×V)}{f:Str}{v:V}{A:Around}{E:Value→Shared→Prop}
theorem QC {b:Bool}{Q:Value→Shared→Prop} (I:Inv X pins σ H s) (e:H a=some (.ins C dx fs)) (c:Cls X.K C) (n:gp X.K C f) (l:fs.lookup f=some v)
 (h:∀ u s',Inv X pins σ H s'→RelV v u→Q u s'):wpAny (model X.prog X.w) A (getAttr (.ref a) f b) Q E s:=by
 obtain⟨mA,O,r,_,_,_⟩:=MP I.hok e
 obtain⟨u,hu,ru⟩:=xP.some_of (v:=v) (o:=mA f) (by rw[← l];exact r f)
 exact get_map I.kIn O (c.get f) c.hd n hu (Sv ru) (h u _ (I.tok _) ru)
theorem BE {m:Str}{g:Addr}{pl:Sem Bool}{Q:Value×List Value→Shared→Prop} (I:Inv X pins σ H s) (e:H a=some (.ins C dx fs)) (c:Cls X.K C) (k:Meth X.K C m g) (l:fs.lookup m=none)
 (h:Q (.ref g,[.ref a]) s):wpAny (model X.prog X.w) A (getMethod (.ref a) m pl) Q E s:=by
 obtain⟨mA,O,r,_,_,_⟩:=MP I.hok e
 have hn:mA m=none:=xP.none_of (by rw[← l];exact r m)
 exact UO I.kIn O (c.get m) k.at_ k.fn hn h
theorem P5 {y:V}{u:Value}{Q:Unit→Shared→Prop} (I:Inv X pins σ H s) (e:H a=some (.ins C dx fs)) (c:Cls X.K C) (n:gp X.K C f) (hl:fs.length < 1000) (ry:RelV y u)
 (h:∀ s',Inv X pins σ (upd H a (.ins C dx (zM f y fs))) s'→Q () s'):wpAny (model X.prog X.w) A (setAttr (.ref a) f u) Q E s:=by
 obtain⟨mA,O,r,wi,_,ho⟩:=MP I.hok e
 have hz:(fs.map (·.1)).length≤sizeLine:=by rw[ae,sizeLine_eq];omega
 refine VE I.kIn O c.sa c.po n.YM c.hd wi hz fun h' O' sb=>h _ ?_
 have hd:∃ o,h'.get? dx=some o:=let ⟨o,_,_,e',_⟩:=O'.ns;⟨o,e'⟩
 refine I.write (x:=a) (e:=dx) (by rw[e];exact zb) (.inr ho) (fun b q hb z=>(sb.2 b hb).trans z) hd ?_
 refine⟨by rw[aN O.ne];exact ho,?_,O.ne,O'.obj,_,O'.ns,fun g=>?_,fun g hg=>?_⟩
 ·have:=Fm f y fs;omega
 ·show xP ((zM f y fs).lookup g) (if g=f then some u else mA g)
  rw[Fl]
  by_cases q:g=f
  ·rw[if_pos q,if_pos q];exact ry
  ·rw[if_neg q,if_neg q];exact r g
 ·by_cases q:g=f
  ·rw[q];exact(EM f y fs).1
  ·refine(EM f y fs).2 g (wi g fun z=>hg ?_)
   show(if g=f then some u else mA g)=none
   rw[if_neg q];exact z
theorem Inv.made (I:Inv X pins σ H s):Inv X pins σ (upd (upd H s.heap.objs.size (.own (s.heap.objs.size+1))) (s.heap.objs.size+1) (.ins C s.heap.objs.size []))
 { s with heap:=(s.heap.push eA).push (iU C s.heap.objs.size) }:=by
 have e1:(s.heap.push eA).get? s.heap.objs.size=some eA:=Heap.get?_push_size s.heap rfl
 have e2:((s.heap.push eA).push (iU C s.heap.objs.size)).get? (s.heap.objs.size+1)=some (iU C s.heap.objs.size):=by
  have:=Heap.get?_push_size (s.heap.push eA) (o:=iU C s.heap.objs.size) rfl
  rwa [Heap.size_push] at this
 have e3:(s.heap.push eA).Ns s.heap.objs.size (fun _=>none):=⟨eA,#[],_,e1,rfl,(fun e he=>absurd he (by simp)),fun _=>rfl⟩
 have I1:=I.laid (a:=s.heap.objs.size) (o:=.own (s.heap.objs.size+1)) (h':=s.heap.push eA) (t':=s.toks) (fun b u q=>Heap.get?_push_of_some _ q) (aB _) ⟨_,e1⟩
 refine I1.laid (a:=s.heap.objs.size+1) (o:=.ins C s.heap.objs.size []) (t':=s.toks) (fun b u q=>Heap.get?_push_of_some _ q) (uo (Heap.size_push _ _)) ?_
 have ne:s.heap.objs.size≠s.heap.objs.size+1:=bV (Nat.lt_succ_self _)
 refine⟨by rw[aN ne,aE],aT _,ne,e2,fun _=>none,(Heap.Ns1.of_empty e3).at fun o q=>Heap.get?_push_of_some _ q,fun _=>zb,fun y hy=>absurd rfl hy⟩
theorem Wm {prog:Program}{w:World}{env:Env}{e:Expr}{f:Str}{pos:Pos}{s:Shared}{Q:Value→Shared→Prop} (hb:attributeBase e f env (eval e env)=eval e env)
 (h:wpAny (model prog w) A (eval e env) (fun o s₁=>wpAny (model prog w) A (getAttr o f true) Q E s₁) E s):wpAny (model prog w) A (eval (.Attribute e f pos) env) Q E s:=
 Attribute_any_ h (by rw[arm_eval_Attribute,hb])
end
inductive aaw (K:ai) (f:Str) (x:V) (H1:Hp) (Q:VK):Prop | mk (a C dx:Addr) (fs:List (Str×V)) (v:V) (_:x=.ref a) (_:H1 a=some (.ins C dx fs)) (_:Cls K C) (_:gp K C f) (_:fs.lookup f=some v) (_:Q v H1):aaw K f x H1 Q
def YT (K:ai) (ta:TE) (f:Str):TE:=fun σ H Q=>ta σ H fun x H1=>aaw K f x H1 Q
inductive aar (K:ai) (f:Str) (y x:V) (H2:Hp) (R:Hp→Prop):Prop | mk (a C dx:Addr) (fs:List (Str×V)) (_:x=.ref a) (_:H2 a=some (.ins C dx fs)) (_:Cls K C) (_:gp K C f) (_:fs.length < 1000) (_:R (upd H2 a (.ins C dx (zM f y fs)))):aar K f y x H2 R
def Y0 (K:ai) (ta tv:TE) (f:Str):TS:=fun D σ H=>tv σ H fun y H1=>ta σ H1 fun x H2=>aar K f y x H2 (D.nx σ)
section
variable {X:Cx}{o e value:Expr}{f:Str}{pos pos' aaG:Pos}{ta tv:TE}
theorem bI (he:PE X e ta) (hb:attributeBase e f X.env (eval e X.env)=eval e X.env):PE X (.Attribute e f pos) (YT X.K ta f):=by
 intro pins s σ H Q I h
 refine Wm hb (thn (he pins s σ H _ I h) fun u s1 ⟨x,H1,I1,rx,a,C,dx,fs,v,ex,ea,c,n,l,q⟩=>?_)
 subst ex
 obtain rfl:u=Value.ref a:=rx
 exact QC I1 ea c n l fun u' s2 I2 ru=>⟨v,H1,I2,ru,q⟩
theorem gm (ha:PE X o ta) (hv:PE X value tv) (hs:swapsWith value (some (.Attribute o f pos')) pos.line X.env=pure false):PS X (.Assign [.Attribute o f pos'] value pos) (Y0 X.K ta tv f):=by
 intro pins s σ H D I h
 refine plainObj_wpAny_Assign_Attribute (thn (hv pins s σ H _ I h) fun u s1 ⟨y,H1,I1,ry,q⟩=>thn (ha pins s1 σ H1 _ I1 q) fun ov s2 ⟨x,H2,I2,rx,a,C,dx,fs,ex,ea,c,n,l,q2⟩=>?_) hs
 subst ex
 obtain rfl:ov=Value.ref a:=rx
 exact P5 I2 ea c n l ry fun s3 I3=>⟨σ,_,I3,q2⟩
theorem WL {pl:Sem Bool}{m:Str}{apos:Pos}{args:List Expr}{pins:List (Addr×Obj)}{s:Shared}{σ:St}{H:Hp}{Q:Value→Shared→Prop}{te:TE} (he:PE X e te) (I:Inv X pins σ H s)
 (h:te σ H fun x H1=>∃ a C dx fs g,x=.ref a∧H1 a=some (.ins C dx fs)∧Cls X.K C∧Meth X.K C m g∧fs.lookup m=none∧
   ∀ s1,Inv X pins σ H1 s1→wpAny (model X.prog X.w) X.A (callWith pos (.ref g) [.ref a] (backTo pos (starEach args X.env)) (backToKw pos (keywordEach [] X.env))) Q X.xe s1)
 (ht:eval (.Call (.Attribute e m apos) args [] pos) X.env=(do
   let ov ← eval e X.env
   standAt apos.atName
   let (f,first) ← holding [ov] (getMethod ov m pl)
   callWith pos f first (backTo pos (starEach args X.env)) (backToKw pos (keywordEach [] X.env)))):
 wpAny (model X.prog X.w) X.A (eval (.Call (.Attribute e m apos) args [] pos) X.env) Q X.xe s:=by
 refine yb (pl:=pl) (thn (he pins s σ H _ I h) fun u s1 ⟨x,H1,I1,rx,a,C,dx,fs,g,ex,ea,c,k,l,q⟩=>?_) ht
 subst ex
 obtain rfl:u=Value.ref a:=rx
 exact BE I1 ea c k l (q s1 I1)
end
section
variable {X:Cx}{pins:List (Addr×Obj)}{σ:St}{H:Hp}{s:Shared}{A:Around}{E:Value→Shared→Prop}{Q:Value→Shared→Prop}{c:Value}{b:Bool}
end
end L2
namespace L2
open PySem PySem.Spec PyProof.Rows
structure oW (k:Nat) (A:Around):Prop where
 hd:A.handled=none
 dp:A.depth+3 * k+5 < recursionLimit
 un:A.units+16 * k+200 < cLine
theorem oW.mono {j k:Nat}{A:Around} (r:oW k A) (h:j≤k):oW j A:=⟨r.hd,by have:=r.dp;omega,by have:=r.un;omega⟩
theorem oW.deeper {k:Nat}{A:Around} (r:oW (k+1) A) (env:Env):oW k (A.deeper env):=
 ⟨r.hd,by have:=r.dp;show A.depth+1+3 * k+5 < _;omega,by have:=r.un;show A.units+3+16 * k+200 < _;omega⟩
theorem Qp {A:Around}{C:Addr}{us:List Value}{kw:List (Str×Value)}:(A.under (.builtin "type.__call__" ⟨.ref C::us,kw⟩)).depth=A.depth+1:=by
 first | rfl | simp[Around.under,Code.weight,Code.isCreation,Code.isGuard,Code.isCaller,Code.frames,Code.isFrame,guardIds]
theorem Qo {A:Around}{C:Addr}{us:List Value}{kw:List (Str×Value)}:(A.under (.builtin "type.__call__" ⟨.ref C::us,kw⟩)).units=A.units+1:=by
 first | rfl | simp[Around.under,Code.cUnits,Code.frames,Code.isFrame]
theorem oW.make {k:Nat}{A:Around} (r:oW (k+1) A) (C:Addr) (us:List Value) (kw:List (Str×Value)):oW k (A.under (.builtin "type.__call__" ⟨.ref C::us,kw⟩)):=
 ⟨r.hd,by have:=r.dp;rw[Qp];omega,by have:=r.un;rw[Qo];omega⟩
theorem oW.depth {k:Nat}{A:Around} (r:oW k A):A.depth < recursionLimit:=by have:=r.dp;omega
theorem oW.units {k:Nat}{A:Around} (r:oW k A):A.units+64 < cLine:=by have:=r.un;omega
def LX:TA:=fun _ H Q=>Q [] H
def Ha (ta:TE) (tr:TA):TA:=fun σ H Q=>ta σ H fun x H1=>tr σ H1 fun xs H2=>Q (x::xs) H2
section
variable {X:Cx}{e:Expr}{es:List Expr}{te:TE}{t:TA}{pos:Pos}
theorem aq:PA X [] LX:=fun _ _ _ _ H Q I h=>Calls.spliced_nil ⟨[],H,I,.nil,h⟩
theorem ah (ha:PE X e te) (hr:PA X es t) (hs:starEach (e::es) X.env=(false,eval e X.env)::starEach es X.env:=by rfl):PA X (e::es) (Ha te t):=by
 intro pos pins s σ H Q I h
 rw[hs]
 show wpAny _ _ (spliced ((false,eval e X.env)::backTo pos (starEach es X.env))) _ _ s
 refine Calls.spliced_cons (thn (ha pins s σ H _ I h) fun u s1 ⟨x,H1,I1,r1,q1⟩=>?_)
 exact thn (hr pos pins s1 σ H1 _ I1 q1) fun us s2 ⟨xs,H2,I2,r2,q2⟩=>⟨x::xs,H2,I2,.cons r1 r2,q2⟩
def aaI (t:TA):TE:=fun σ H Q=>t σ H fun xs H1=>xs.length≤sizeLine∧∀ p,H1 p=none→Q (.ref p) (upd H1 p (.tup xs))
def YR (t:TA):TE:=fun σ H Q=>t σ H fun xs H1=>xs.length≤sizeLine∧∀ p,H1 p=none→Q (.ref p) (upd H1 p (.lst xs))
theorem dG {x1} (h:PA X es t):PE X (.Tuple es x1 pos) (aaI t):=by
 intro pins s σ H Q I hq
 refine wpAny_Tuple_spliced (thn (h pos pins s σ H _ I hq) fun us s1 ⟨xs,H1,I1,r,z,q⟩=>⟨by rw[← r.length];exact z,?_⟩)
 have hf:H1 s1.heap.objs.size=none:=I1.hok.fresh (aB _)
 refine⟨.ref s1.heap.objs.size,upd H1 s1.heap.objs.size (.tup xs),I1.laid (t':=s1.toks) (fun b u e=>Heap.get?_push_of_some _ e) (aB _) ?_,rfl,q _ hf⟩
 exact⟨z,us,r,⟨_,Heap.get?_push_size _ rfl,rfl,_,rfl⟩⟩
theorem bX (h:PA X es t):PE X (.List es pos) (YR t):=by
 intro pins s σ H Q I hq
 refine wpAny_List_spliced (thn (h pos pins s σ H _ I hq) fun us s1 ⟨xs,H1,I1,r,z,q⟩=>⟨by rw[← r.length];exact z,?_⟩)
 have hf:H1 s1.heap.objs.size=none:=I1.hok.fresh (aB _)
 refine⟨.ref s1.heap.objs.size,upd H1 s1.heap.objs.size (.lst xs),I1.laid (t':=s1.toks) (fun b u e=>Heap.get?_push_of_some _ e) (aB _) ?_,rfl,q _ hf⟩
 exact⟨z,us,0,r,Heap.get?_push_size _ rfl⟩
end
abbrev Sp:=List V→Hp→VK→XK→Prop
abbrev CXT:=List Env→Hp→Shared→XK→Value→Shared→Prop
structure QV (P:Program) (w:World) (K:ai) (mg:Str→Option Value) (base:Heap) (A:Around) (outer:List Env) (s:Shared) (H:Hp):Prop where
 frames:A.frames=some outer
 mod:Mod K mg base
 bs:∀ b o,base.get? b=some o→s.heap.get? b=some o∧H b=none
 bsz:base.objs.size≤s.heap.objs.size
 BF:s.heap.FunFrames base outer
 frf:∀ b∈frs outer,H b=none
 hok:HOk P w H s.heap
 bare:AllBare s.gens
def CE (outer:List Env) (P:Program) (w:World) (H:Hp) (s:Shared) (Q:VK) (u:Value) (s':Shared):Prop:=
 ∃ v H',s'.os=s.os∧AllBare s'.gens∧Un (frs outer) [] H H' s.heap s'.heap∧HOk P w H' s'.heap∧RelV v u∧Q v H'
def CR (CX:CXT) (outer:List Env) (P:Program) (w:World) (H:Hp) (s:Shared) (Q:VK) (E:XK) (r:Result) (s':Shared):Prop:=
 match r with
 | .ok (.ret u)=>CE outer P w H s Q u s'
 | .ok _=>False
 | .error e=>CX outer H s E e s'
structure cI (P:Program) (w:World) (K:ai) (mg:Str→Option Value) (base:Heap) (CX:CXT) (k:Nat) (f:Addr) (fd:FuncData) (ps:List Str) (sp:Sp):Prop where
 len:∀ vs H Q E,sp vs H Q E→vs.length=ps.length
 run:∀ (A:Around) (outer:List Env) (s:Shared) (H:Hp) (args:Args) (us:List Value) (vs:List V) (Q:VK) (E:XK),oW k A→QV P w K mg base A outer s H→BindsTo s fd args (ps.zip us)→Vals vs us→sp vs H Q E→
  codeAny (model P w) A (.call (.ref f) args) (CR CX outer P w H s Q E) s
theorem QV.make {P:Program}{w:World}{K:ai}{mg:Str→Option Value}{base:Heap}{A:Around}{outer:List Env}{s:Shared}{H:Hp} (e:QV P w K mg base A outer s H) (C:Addr) (us:List Value) (kw:List (Str×Value)):
 QV P w K mg base (A.under (.builtin "type.__call__" ⟨.ref C::us,kw⟩)) outer s H:=⟨by first | exact e.frames | (simpa [Around.under,Code.envs,Code.isFrame,pushEnvs] using e.frames),e.mod,e.bs,e.bsz,e.BF,e.frf,e.hok,e.bare⟩
section
variable {X:Cx}{pins:List (Addr×Obj)}{σ:St}{H:Hp}{s s':Shared}
theorem Inv.aag (I:Inv X pins σ H s):QV X.prog X.w X.K X.mg X.base X.A X.stack s H:=
 ⟨I.ok.frames,I.ok.mod,I.bs,bP I.ok.bsz I.sz,I.stack,I.LZ,I.hok,I.bare⟩
theorem Inv.after {Q:VK}{u:Value} (I:Inv X pins σ H s) (h:CE X.stack X.prog X.w H s Q u s'):EP X pins σ Q u s':=by
 obtain⟨v,H',os,bare,un,hok,r,q⟩:=h
 obtain⟨hh,g,d,t,os'⟩:=s'
 obtain rfl:os'=s.os:=os
 exact⟨v,H',I.call (h':=hh) (g':=g) (d':=d) (t':=t) (ch:=[]) un hok bare (fun b z=>absurd z (by simp)),r,q⟩
end
def QZ (sp:Sp) (dvs:List V) (E:XK) (t:TA):TE:=fun σ H Q=>t σ H fun vs H1=>sp (vs++dvs) H1 Q E
inductive aas (C:Addr) (m:Str) (x:V) (H1:Hp) (R:Prop):Prop | mk (a dx:Addr) (fs:List (Str×V)) (_:x=.ref a) (_:H1 a=some (.ins C dx fs)) (_:fs.lookup m=none) (_:R):aas C m x H1 R
def WC (C:Addr) (m:Str) (sp:Sp) (dvs:List V) (E:XK) (ta:TE) (t:TA):TE:=fun σ H Q=>ta σ H fun x H1=>aas C m x H1 (t σ H1 fun vs H2=>sp (x::(vs++dvs)) H2 Q E)
def WD (C:Addr) (sp:Sp) (dvs:List V) (E:XK) (t:TA):TE:=fun σ H Q=>t σ H fun vs H1=>∀ x dx,H1 x=none→H1 dx=none→dx≠x→
 sp (.ref x::(vs++dvs)) (upd (upd H1 dx (.own x)) x (.ins C dx [])) (fun v H2=>v=.non∧Q (.ref x) H2) E
def Binds (K:ai) (fd:FuncData) (ps:List Str) (ds:List Value):Prop:=
 ∀ (s:Shared) (us:List Value),K.In s.heap→(us++ds).length=ps.length→BindsTo s fd ⟨us,[]⟩ (ps.zip (us++ds))
theorem Binds.all {K:ai}{fd:FuncData}{ps:List Str} (h:∀ us:List Value,us.length=ps.length→bindArgs fd ⟨us,[]⟩=pure (ps.zip us)):Binds K fd ps []:=fun s us _ hl=>by
 rw[cq] at hl ⊢
 exact .of_eq (h us hl)
def Passes (CX:CXT) (X:Cx) (E:XK):Prop:=∀ (pins:List (Addr×Obj)) (σ:St) (H:Hp) (s:Shared) (e:Value) (s':Shared),Inv X pins σ H s→CX X.stack H s E e s'→X.xe e s'
section
variable {X:Cx}{CX:CXT}{k:Nat}{f C:Addr}{fd:FuncData}{ps:List Str}{sp:Sp}{dvs:List V}{ds:List Value}{E:XK}{x m:Str}{p pos apos:Pos}{e o:Expr}{es:List Expr}{ta:TE}{t:TA}
theorem P8 {pins:List (Addr×Obj)}{σ:St}{H:Hp}{s:Shared}{Q:VK}{us:List Value}{vs:List V} (F:cI X.prog X.w X.K X.mg X.base CX k f fd ps sp) (hr:oW k X.A) (hb:Binds X.K fd ps ds) (hd:Vals dvs ds) (hx:Passes CX X E)
 (I:Inv X pins σ H s) (r:Vals vs us) (h:sp (vs++dvs) H Q E):wpAny (model X.prog X.w) X.A (call (.ref f) us) (EP X pins σ Q) X.xe s:=by
 have r2:Vals (vs++dvs) (us++ds):=r.append hd
 have hl:(us++ds).length=ps.length:=by rw[← r2.length];exact F.len _ _ _ _ h
 refine wpAny_call (codeAny_mono (F.run X.A X.stack s H ⟨us,[]⟩ (us++ds) (vs++dvs) Q E hr I.aag (hb s us I.kIn hl) r2 h) fun r s' hq=>?_)
 cases r with
 | error e=>exact hx pins σ H s e s' I hq
 | ok fl=>
   cases fl with
   | ret u=>exact I.after hq
   | next=>exact dF hq
   | brk=>exact dF hq
   | cont=>exact dF hq
theorem bG (F:cI X.prog X.w X.K X.mg X.base CX k f fd ps sp) (hr:oW k X.A) (hg:Gl X x) (hm:X.mg x=some (.ref f)) (hk:oT X.K (.ref f)=true) (hb:Binds X.K fd ps ds) (hd:Vals dvs ds) (hx:Passes CX X E)
 (ha:PA X (e::es) t) (hdb:(x == ("__debug__" :Str))=false:=by decide) (he:starEach (e::es) X.env=(false,eval e X.env)::starEach es X.env:=by rfl) (hpl:(backTo pos (starEach es X.env)).any (·.1)=false:=by rfl):
 PE X (.Call (.Name x p) (e::es) [] pos) (QZ sp dvs E t):=by
 intro pins s σ H Q I h
 refine p9 (C8 I hg hm ?_ hdb)
 refine B1 (h₀:=X.base) I.ok.mod.kin hk (thn (ha pos pins s σ H _ I h) fun us s1 ⟨vs,H1,I1,r,q⟩=>⟨I1.kIn,?_⟩) he hpl
 exact P8 F hr hb hd hx I1 r q
theorem cn {pl:Sem Bool} (he:PE X o ta) (c:Cls X.K C) (hm:Meth X.K C m f) (F:cI X.prog X.w X.K X.mg X.base CX k f fd ps sp) (hr:oW k X.A) (hb:Binds X.K fd ps ds) (hd:Vals dvs ds) (hx:Passes CX X E) (ha:PA X (e::es) t)
 (hst:starEach (e::es) X.env=(false,eval e X.env)::starEach es X.env:=by rfl) (hpl:(backTo pos (starEach es X.env)).any (·.1)=false:=by rfl)
 (ht:eval (.Call (.Attribute o m apos) (e::es) [] pos) X.env=(do
   let ov ← eval o X.env
   standAt apos.atName
   let (f,first) ← holding [ov] (getMethod ov m pl)
   callWith pos f first (backTo pos (starEach (e::es) X.env)) (backToKw pos (keywordEach [] X.env))):=by rfl):
 PE X (.Call (.Attribute o m apos) (e::es) [] pos) (WC C m sp dvs E ta t):=by
 intro pins s σ H Q I h
 refine yb (pl:=pl) (thn (he pins s σ H _ I h) fun u s1 ⟨x,H1,I1,rx,a,dx,fs,ex,ea,l,q⟩=>?_) ht
 subst ex
 obtain rfl:u=Value.ref a:=rx
 refine BE I1 ea c hm l ?_
 refine B1 (first:=[.ref a]) (h₀:=X.base) I.ok.mod.kin hm.kp (thn (ha pos pins s1 σ H1 _ I1 q) fun us s2 ⟨vs,H2,I2,r,q2⟩=>⟨I2.kIn,?_⟩) hst hpl
 exact P8 (us:=.ref a::us) (vs:=.ref a::vs) F hr hb hd hx I2 (.cons rfl r) q2
theorem dc {pl:Sem Bool} (he:PE X o ta) (c:Cls X.K C) (hm:Meth X.K C m f) (F:cI X.prog X.w X.K X.mg X.base CX k f fd ps sp) (hr:oW k X.A) (hb:Binds X.K fd ps ds) (hd:Vals dvs ds) (hx:Passes CX X E)
 (ht:eval (.Call (.Attribute o m apos) [] [] pos) X.env=(do
   let ov ← eval o X.env
   standAt apos.atName
   let (f,first) ← holding [ov] (getMethod ov m pl)
   callWith pos f first (backTo pos (starEach [] X.env)) (backToKw pos (keywordEach [] X.env))):=by rfl):
 PE X (.Call (.Attribute o m apos) [] [] pos) (WC C m sp dvs E ta LX):=by
 intro pins s σ H Q I h
 refine yb (pl:=pl) (thn (he pins s σ H _ I h) fun u s1 ⟨x,H1,I1,rx,a,dx,fs,ex,ea,l,q⟩=>?_) ht
 subst ex
 obtain rfl:u=Value.ref a:=rx
 refine BE I1 ea c hm l ?_
 exact PySem.W.callWith_K0 (first:=[.ref a]) I1.kIn hm.kp (P8 (us:=[.ref a]) (vs:=[.ref a]) F hr hb hd hx I1 (.cons rfl .nil) q)
structure Mk (K:ai) (C f:Addr):Prop where
 makes:PySem.W.makesIn K C=true
 init:bC K (.ref C) "__init__"=some (some (.ref f))
 fn:DW K (.ref f)=true
 kp:oT K (.ref C)=true
theorem NY {pins:List (Addr×Obj)}{σ:St}{H:Hp}{s:Shared}{Q:VK}{us:List Value}{vs:List V} (M:Mk X.K C f) (F:cI X.prog X.w X.K X.mg X.base CX k f fd ps sp) (hr:oW (k+1) X.A) (hb:Binds X.K fd ps ds) (hd:Vals dvs ds)
 (hx:Passes CX X E) (I:Inv X pins σ H s) (r:Vals vs us)
 (h:∀ x dx,H x=none→H dx=none→dx≠x→sp (.ref x::(vs++dvs)) (upd (upd H dx (.own x)) x (.ins C dx [])) (fun v H2=>v=.non∧Q (.ref x) H2) E):
 wpAny (model X.prog X.w) X.A (call (.ref C) us) (EP X pins σ Q) X.xe s:=by
 have hq:=h (s.heap.objs.size+1) s.heap.objs.size (I.hok.fresh (Nat.le_succ _)) (I.hok.fresh (aB _)) (bV (Nat.lt_succ_self _))
 have I2:=Inv.made (C:=C) I
 have r2:Vals (V.ref (s.heap.objs.size+1)::(vs++dvs)) (Value.ref (s.heap.objs.size+1)::(us++ds)):=.cons rfl (r.append hd)
 have hl:(Value.ref (s.heap.objs.size+1)::us++ds).length=ps.length:=by
  have e:=r2.length
  rw[F.len _ _ _ _ hq] at e
  exact e.symm
 refine wpAny_call (T3 (f:=f) I.kIn M.makes M.init (beq_iff_eq.mp M.fn) (codeAny_mono (F.run _ X.stack _ _ ⟨Value.ref (s.heap.objs.size+1)::us,[]⟩ (Value.ref (s.heap.objs.size+1)::(us++ds)) _ _ E (hr.make C us [])
  (I2.aag.make C us []) (hb _ (Value.ref (s.heap.objs.size+1)::us) I2.kIn hl) r2 hq) fun r s' hq'=>?_))
 cases r with
 | error e=>exact hx pins σ _ _ e s' I2 hq'
 | ok fl=>
   cases fl with
   | ret u=>
     obtain⟨v,H',I3,rv,ev,q3⟩:=I2.after hq'
     subst ev
     exact⟨rv,⟨V.ref (s.heap.objs.size+1),H',I3,rfl,q3⟩⟩
   | next=>exact dF hq'
   | brk=>exact dF hq'
   | cont=>exact dF hq'
theorem zf (M:Mk X.K C f) (F:cI X.prog X.w X.K X.mg X.base CX k f fd ps sp) (hr:oW (k+1) X.A) (hg:Gl X x) (hm:X.mg x=some (.ref C)) (hb:Binds X.K fd ps ds) (hd:Vals dvs ds) (hx:Passes CX X E)
 (ha:PA X (e::es) t) (hdb:(x == ("__debug__" :Str))=false:=by decide) (he:starEach (e::es) X.env=(false,eval e X.env)::starEach es X.env:=by rfl) (hpl:(backTo pos (starEach es X.env)).any (·.1)=false:=by rfl):
 PE X (.Call (.Name x p) (e::es) [] pos) (WD C sp dvs E t):=by
 intro pins s σ H Q I h
 refine p9 (C8 I hg hm ?_ hdb)
 refine B1 (h₀:=X.base) I.ok.mod.kin M.kp (thn (ha pos pins s σ H _ I h) fun us s1 ⟨vs,H1,I1,r,q⟩=>⟨I1.kIn,?_⟩) he hpl
 exact NY M F hr hb hd hx I1 r q
theorem TF (M:Mk X.K C f) (F:cI X.prog X.w X.K X.mg X.base CX k f fd ps sp) (hr:oW (k+1) X.A) (hg:Gl X x) (hm:X.mg x=some (.ref C)) (hb:Binds X.K fd ps ds) (hd:Vals dvs ds) (hx:Passes CX X E)
 (hdb:(x == ("__debug__" :Str))=false:=by decide):PE X (.Call (.Name x p) [] [] pos) (WD C sp dvs E LX):=by
 intro pins s σ H Q I h
 refine p9 (C8 I hg hm ?_ hdb)
 exact PySem.W.callWith_K0 I.kIn M.kp (NY (us:=[]) M F hr hb hd hx I .nil h)
end
section
variable {X:Cx}{CX:CXT}{k:Nat}{f C:Addr}{fd:FuncData}{ps ks:List Str}{sp:Sp}{E:XK}{x m:Str}{p pos apos ac7:Pos}{e o:Expr}{es:List Expr}{kws:List Keyword}{te ta:TE}{t tk:TA}{nm:Option Str}
variable {g:List Value→List Value→List Value}{gV:List V→List V→List V}
end
structure bb (N P:List Str) (sc:Scope):Prop where
 kind:sc.kind=.function
 co:sc.isCoroutine=false
 gen:sc.isGenerator=false
 nd:N.Nodup
 pre:N.take P.length=P
 par:∀ x∈P,sc.names.lookup x=some .local∨sc.names.lookup x=some .cell
 XE:∀ y∈sc.names,y.2≠.free
theorem LD {kindOf:Str→Option NameKind}{x:Str}:∀ {binds:List (Str×Value)}{m:Str→Option Value},(∀ v,(x,v)∉binds)→bindL kindOf binds m x=m x
 | [],_,_=>rfl
 | (n,v)::r,m,h=>by
   unfold bindL
   rw[LD fun w hw=>h w (aG _ hw)]
   split
   ·have:x≠n:=by rintro rfl;exact h v aI
    simp[this]
   ·rfl
theorem LG {kindOf:Str→Option NameKind}{x:Str}:∀ {binds:List (Str×Value)}{m:Str→Option Value},(∀ v,(x,v)∉binds)→bindC kindOf binds m x=m x
 | [],_,_=>rfl
 | (n,v)::r,m,h=>by
   unfold bindC
   rw[LG fun w hw=>h w (aG _ hw)]
   split
   ·rfl
   ·have:x≠n:=by rintro rfl;exact h v aI
    simp[this]
theorem LF {kindOf:Str→Option NameKind}{x:Str}{v:Value}:∀ {P:List Str}{vs:List Value}{i:Nat}{m:Str→Option Value},P.Nodup→P[i]?=some x→vs[i]?=some v→kindOf x=some .local→
 bindL kindOf (P.zip vs) m x=some v
 | [],_,_,_,_,h,_,_=>by simp at h
 | _::_,[],_,_,_,_,h,_=>by simp at h
 | p::P,w::vs,0,m,nd,h1,h2,hk=>by
   simp at h1 h2;subst h1;subst h2
   show bindL kindOf ((p,w)::P.zip vs) m p=_
   unfold bindL
   rw[LD fun v hv=>(c7.mp nd).1 (List.of_mem_zip hv).1,if_pos hk]
   simp
 | p::P,w::vs,i+1,m,nd,h1,h2,hk=>by
   show bindL kindOf ((p,w)::P.zip vs) m x=_
   unfold bindL
   exact LF (i:=i) (c7.mp nd).2 (by simpa using h1) (by simpa using h2) hk
theorem LH {kindOf:Str→Option NameKind}{x:Str}{v:Value}:∀ {P:List Str}{vs:List Value}{i:Nat}{m:Str→Option Value},P.Nodup→P[i]?=some x→vs[i]?=some v→kindOf x≠some .local→
 bindC kindOf (P.zip vs) m x=some v
 | [],_,_,_,_,h,_,_=>by simp at h
 | _::_,[],_,_,_,_,h,_=>by simp at h
 | p::P,w::vs,0,m,nd,h1,h2,hk=>by
   simp at h1 h2;subst h1;subst h2
   show bindC kindOf ((p,w)::P.zip vs) m p=_
   unfold bindC
   rw[LG fun v hv=>(c7.mp nd).1 (List.of_mem_zip hv).1,if_neg hk]
   simp
 | p::P,w::vs,i+1,m,nd,h1,h2,hk=>by
   show bindC kindOf ((p,w)::P.zip vs) m x=_
   unfold bindC
   exact LH (i:=i) (c7.mp nd).2 (by simpa using h1) (by simpa using h2) hk
def start (N:List Str) (vs:List V):St:=vs.map some++aj (N.length - vs.length) none
def tq (CX:CXT) (P:Program) (w:World) (K:ai) (mg:Str→Option Value) (base:Heap) (N:List Str) (qual:Str) (scope:Scope) (f:Addr) (cd:Value) (A:Around) (outer:List Env) (s:Shared) (H:Hp) (E:XK):Cx where
 prog:=P
 w:=w
 K:=K
 mg:=mg
 base:=base
 A:=A.deeper (envOfC qual scope s.heap.objs.size f cd)
 N:=N
 s_0:=s
 H_0:=H
 env:=envOfC qual scope s.heap.objs.size f cd
 outer:=outer
 stack:=envOfC qual scope s.heap.objs.size f cd::outer
 ex:=[]
 calm:=true
 fn:=fun _=>true
 pn:=[]
 xe:=fun e s'=>wpAny (model P w) (A.deeper (envOfC qual scope s.heap.objs.size f cd)) (leaving (envOfC qual scope s.heap.objs.size f cd) e) (fun _ s''=>CX outer H s E e s'') (fun e' s''=>CX outer H s E e' s'') s'
theorem Pb {sc:Scope}{n:Nat}{x:Str} (h:sc.names.lookup x=some .cell):∃ c,(cellsFrom n sc.names []).lookup x=some c:=by
 have q:=PySem.W.cellsFrom_some sc.names n [] (.inl h)
 exact Option.isSome_iff_exists.mp q
theorem So {CX:CXT}{P:Program}{w:World}{K:ai}{mg:Str→Option Value}{base:Heap}{N ps:List Str}{qual:Str}{scope:Scope}{f:Addr}{cd:Value}{A:Around}{outer:List Env}{s s1:Shared}{H:Hp}{E:XK}{us:List Value}{vs:List V}
 (S:bb N ps scope) (hd:A.handled=none) (e0:QV P w K mg base A outer s H) (hl:vs.length=ps.length) (r:Vals vs us)
 (x:InCallC s s.heap.objs.size (bindL (envOfC qual scope s.heap.objs.size f cd).kindOf (ps.zip us) fun _=>none) (cellsFrom (s.heap.objs.size+1) scope.names []) (bindC (envOfC qual scope s.heap.objs.size f cd).kindOf (ps.zip us) fun _=>none) s1):
 Inv (tq CX P w K mg base N qual scope f cd A outer s H E) [] (start N vs) H s1:=by
 have hpl:ps.length≤N.length:=by have:=congrArg ja S.pre;rw[rA] at this;omega
 obtain⟨h1,tk,rfl,hk⟩:=x.done
 have noA:∀ b:Addr,b∉(tq CX P w K mg base N qual scope f cd A outer s H E).ex:=fun b z=>absurd (show b∈([]:List Addr) from z) (by simp)
 refine⟨⟨e0.mod,S.kind,rfl,rfl,aB _,fun y z c h1 h2=>?_,fun y hy=>?_,fun y c _ h=>?_,fun _=>hd,Around.frames_deeper e0.frames,.inr ⟨rfl,rfl⟩,fun b z=>absurd z (noA b),e0.bs,e0.bsz,fun b _ _=>noA b,fun b z=>absurd z (noA b),e0.BF,e0.frf⟩,
  rfl,e0.bare,Un.kept hk,⟨_,x.toInCall.ns,fun i y v h1 h2 h3=>?_⟩,fun y c h=>⟨_,x.cell y c h⟩,e0.hok.fresh (aB _),fun y c h=>?_,fun p hp=>absurd (show p∈([]:List (Addr×Obj)) from hp) (by simp),e0.hok.kept hk,?_⟩
 ·exact name_of_addr x.apart (b6 h1) (b6 h2)
 ·have hy:scope.names.lookup y=some .cell∨scope.names.lookup y=some .free:=hy
  rcases hy with hy | hy
  ·exact Pb hy
  ·exact absurd rfl (S.XE _ (b6 hy))
 ·exact jd (x.above y c (b6 h))
 ·have hi:i < vs.length:=by
   unfold start at h2
   by_cases hi:i < vs.length
   ·exact hi
   ·rw[cB (by simpa using hi)] at h2
    rw[List.getElem?_replicate] at h2
    split at h2<;>cases h2
  have ha:vs[i]?=some v:=by
   unfold start at h2
   rw[dB (by simpa using hi),bq] at h2
   cases e:vs[i]? with
   | none=>rw[e] at h2;cases h2
   | some a=>rw[e] at h2;cases h2;rfl
  obtain⟨u,hu,rv⟩:=r.get ha
  have hp:ps[i]?=some y:=by
   rw[← S.pre,List.getElem?_take_of_lt (by omega)];exact h1
  have ndP:ps.Nodup:=by rw[← S.pre];exact S.nd.sublist (List.take_sublist _ _)
  refine⟨u,rv,?_⟩
  rcases S.par y (a7 hp) with k | k
  ·exact .inl ⟨k,LF ndP hp hu k⟩
  ·obtain⟨c,e⟩:=Pb (n:=s.heap.objs.size+1) k
   refine .inr ⟨.inl k,c,e,?_⟩
   have q:=x.cell y c e
   rw[LH ndP hp hu (by show scope.names.lookup y≠_;rw[k];decide)] at q
   exact q
 ·exact e0.hok.fresh (jd (x.above y c (b6 h)))
 ·unfold start
  show _=N.length
  rw[au,ae,aX]
  omega
theorem WY {CX:CXT}{P:Program}{w:World}{K:ai}{mg:Str→Option Value}{base:Heap}{k:Nat}{f:Addr}{name qual:Str}{params:Arguments}{body:List Stmt}{scope:Scope}{dV kV doc pm cdv ct oc:Value}{an od:Option Addr}
 {osl:Array (Option Value)}{N ps:List Str}{sp:Sp} (lk:K.lookup f=some ⟨oc,od,.func (sE name qual params body scope dV kV doc pm an cdv ct),osl⟩) (hcd:PySem.W.codeIn K cdv qual=true) (S:bb N ps scope)
 (len:∀ vs H Q E,sp vs H Q E→vs.length=ps.length)
 (OR:∀ (A:Around) (outer:List Env) (s:Shared) (H:Hp) (vs:List V) (Q:VK) (E:XK),oW k (A.deeper (envOfC qual scope s.heap.objs.size f cdv))→sp vs H Q E→
   ∃ t,PSs (tq CX P w K mg base N qual scope f cdv A outer s H E) body t∧t { nx:=fun _ H'=>Q .non H',rt:=Q } (start N vs) H):
 cI P w K mg base CX (k+1) f (sE name qual params body scope dV kV doc pm an cdv ct) ps sp:=by
 refine⟨len,fun A outer s H args us vs Q E hr e0 hb r hsp=>?_⟩
 have hl:=len _ _ _ _ hsp
 have KX:K.In s.heap:=e0.mod.kin.keeps fun b o e=>(e0.bs b o e).1
 have lim:s.heap.NoLimit:=e0.mod.nolimit.keeps fun b o e=>(e0.bs b o e).1
 have ZR:∀ y∈ps.zip us,scope.names.lookup y.1=some .local∨(scope.names.lookup y.1=some .cell∧((cellsFrom (s.heap.objs.size+1) scope.names []).lookup y.1).isSome=true):=fun⟨n,v⟩ hy=>by
  rcases S.par n (List.of_mem_zip hy).1 with q | q
  ·exact .inl q
  ·exact .inr ⟨q,PySem.W.cellsFrom_some _ _ _ (.inl q)⟩
 refine codeAny_call_function hr.depth (KX _ _ lk) rfl S.co S.gen rfl (PySem.W.codeRec_of KX hcd) (hb _ _ _ _ ?_)
 refine wpAny_newFunctionEnv_cells S.kind ZR fun env he s1 x=>?_
 subst he
 refine⟨lim.keeps x.toInCall.keep,codeAny_func ?_⟩
 obtain⟨t,ht,hq⟩:=OR A outer s H vs Q E (hr.deeper _) hsp
 have I:Inv (tq CX P w K mg base N qual scope f cdv A outer s H E) [] (start N vs) H s1:=So S hr.hd e0 hl r x
 refine g8 (ht [] s1 (start N vs) H _ I hq) (fun fl s' hs=>?_) fun e s' hs=>hs
 have fin:∀ {σ':St}{H':Hp}{v:V}{u:Value},Inv (tq CX P w K mg base N qual scope f cdv A outer s H E) [] σ' H' s'→RelV v u→Q v H'→CE outer P w H s Q u s':=
  fun {σ' H' v u} J rv q=>⟨v,H',J.os,J.bare,J.base,J.hok,rv,q⟩
 cases fl with
 | ret u=>
   obtain⟨v,σ',H',J,rv,q⟩:=hs
   exact fin J rv q
 | next=>
   obtain⟨σ',H',J,q⟩:=hs
   exact fin (v:=V.non) (u:=Value.none) J rfl q
 | brk=>
   obtain⟨_,_,_,q⟩:=hs
   exact dF q
 | cont=>
   obtain⟨_,_,_,q⟩:=hs
   exact dF q
end L2
namespace L2
open PySem PySem.Spec PyProof.Rows
section
variable {X:Cx}{x:Str}{p pos:Pos}{e:Expr}{es:List Expr}{t:TA}{id T:String}{r:List V→Hp→VK→Prop}
def tCB (r:List V→Hp→VK→Prop) (t:TA):TE:=fun σ H Q=>t σ H fun vs H1=>r vs H1 Q
theorem dH (hc:FA X (.builtin id) r) (hg:Gl X x) (hm:X.mg x=none) (hv:bootBuiltins x=some (.builtin id)) (ha:PA X (e::es) t) (hn:x≠"__name__":=by decide) (hdb:(x == ("__debug__" :Str))=false:=by decide)
 (he:starEach (e::es) X.env=(false,eval e X.env)::starEach es X.env:=by rfl) (hpl:(backTo pos (starEach es X.env)).any (·.1)=false:=by rfl):PE X (.Call (.Name x p) (e::es) [] pos) (tCB r t):=by
 intro pins s σ H Q I h
 refine p9 (Iz I hg hm hv ?_ hn hdb)
 exact PyProof.Rows.callWith_builtin1 (thn (ha pos pins s σ H _ I h) fun us s1 ⟨vs,H1,I1,r1,q1⟩=>hc pins s1 σ H1 vs us Q I1 r1 q1) he hpl
theorem vb (hc:FA X (.type T) r) (hg:Gl X x) (hm:X.mg x=none) (hv:bootBuiltins x=some (.type T)) (ha:PA X (e::es) t) (hn:x≠"__name__":=by decide) (hdb:(x == ("__debug__" :Str))=false:=by decide)
 (he:starEach (e::es) X.env=(false,eval e X.env)::starEach es X.env:=by rfl) (hpl:(backTo pos (starEach es X.env)).any (·.1)=false:=by rfl):PE X (.Call (.Name x p) (e::es) [] pos) (tCB r t):=by
 intro pins s σ H Q I h
 refine p9 (Iz I hg hm hv ?_ hn hdb)
 exact jR (thn (ha pos pins s σ H _ I h) fun us s1 ⟨vs,H1,I1,r1,q1⟩=>hc pins s1 σ H1 vs us Q I1 r1 q1) he hpl
end
end L2
namespace HT
open PySem PyProof.Rows
def lexLt:List Int→List Int→Bool
 | [],[]=>false
 | [],_::_=>true
 | _::_,[]=>false
 | x::xs,y::ys=>if x=y then lexLt xs ys else decide (x < y)
theorem Qs (x y:Int) (xs ys:List Int):lexLt (x::xs) (y::ys)=if x=y then lexLt xs ys else decide (x < y):=rfl
theorem Kk:lexLt [] []=false:=rfl
theorem Ir (y:Int) (ys:List Int):lexLt [] (y::ys)=true:=rfl
theorem Iu (x:Int) (xs:List Int):lexLt (x::xs) []=false:=rfl
theorem UX (A:Around) (s:Shared) (a:Int) (t:Tok) (c:Int) (u:Tok):∃ e,SeqAt.EqAt A s (.int a t) (.int c u) e∧(e=true↔a=c):=
 ⟨(a == c),SeqAt.EqAt.int_int a t c u,by simp⟩
theorem Tr (A:Around) (s:Shared) (a:Int) (t:Tok) (c:Int) (u:Tok) (prog:Program) (w:World) (E:Value→Shared→Prop) (Q:Value→Shared→Prop) (h:Q (.bool (decide (a < c))) s):
 wpAny (model prog w) A (richCompare .Lt (.int a t) (.int c u)) Q E s:=
 (PyProof.Rows.lt_int h:wpAny (model prog w) A (compareOp .Lt (.int a t) (.int c u)) Q E s)
section
open PySem.SeqAt
open PySem.AutoSeq1 (wpAny_loadPart')
open PySem.MeetsSeq PySem.MeetsSeq2 PySem.MeetsSeq3
end
section
variable {prog:Program}{w:World}{A:Around}{E:Value→Shared→Prop}{s:Shared}
def sIx (n d:Nat):Option Int→Nat
 | none=>d
 | some v=>if v < 0 then (v+(n:Int)).toNat else min v.toNat n
theorem NX (n d:Nat):sIx n d none=d:=rfl
theorem ze (n d k:Nat):sIx n d (some (k:Int))=min k n:=by
 show(if (k:Int) < 0 then ((k:Int)+(n:Int)).toNat else min (k:Int).toNat n)=min k n
 rw[if_neg (by omega),cc]
theorem Xl (n d:Nat) (hd:d≤n) (o:Option Int):sIx n d o≤n:=by
 cases o with
 | none=>exact hd
 | some v=>
   show(if v < 0 then (v+(n:Int)).toNat else min v.toNat n)≤n
   by_cases hv:v < 0
   ·rw[if_pos hv];omega
   ·rw[if_neg hv];exact Nat.min_le_right _ _
theorem RD (v:Int) (n d:Nat):(if v < 0 then max (v+(n:Int)) 0 else min v (n:Int))=((sIx n d (some v):Nat):Int):=by
 show(if v < 0 then max (v+(n:Int)) 0 else min v (n:Int))=(((if v < 0 then (v+(n:Int)).toNat else min v.toNat n):Nat):Int)
 by_cases hv:v < 0
 ·simp only[if_pos hv];omega
 ·simp only[if_neg hv];omega
theorem QO (lo hi:Option Int) (n:Nat):Builtin.Slice.sliceAdjust lo hi 1 (n:Int)=(((sIx n 0 lo:Nat):Int),((sIx n n hi:Nat):Int)):=by
 have h1:¬ ((1:Int) < 0):=by omega
 unfold Builtin.Slice.sliceAdjust
 simp only[h1,if_false]
 refine Prod.ext ?_ ?_
 ·cases lo with
  | none=>rfl
  | some v=>exact RD v n 0
 ·cases hi with
  | none=>rfl
  | some v=>exact RD v n n
theorem Qd (i j:Nat):Builtin.Slice.slicePlaces (i:Int) (j:Int) 1=j - i:=by
 unfold Builtin.Slice.slicePlaces
 have h1:(1:Int) > 0:=by omega
 simp only[h1,if_true,Int.ediv_one]
 split<;>omega
theorem Hs {v:Value}{o:Option Int}{Q:Option Int→Shared→Prop} (p:IsPart v o) (h:Q o s):wpAny (model prog w) A (Builtin.Slice.slicePartIndex v) Q E s:=by
 cases p with
 | none=>exact slicePart_none h
 | int i t=>exact slicePart_int h
theorem Ef {sl:Addr}{vl vu:Value}{lo hi:Option Int}{n:Nat}{Q:Int×Int×Nat→Shared→Prop} (hs:s.heap.IsSliceOf sl vl vu .none) (pl:IsPart vl lo) (pu:IsPart vu hi)
 (h:Q (((sIx n 0 lo:Nat):Int),1,sIx n n hi - sIx n 0 lo) s):wpAny (model prog w) A (Builtin.Slice.sliceApplied (.ref sl) (pure (n:Int))) Q E s:=by
 obtain⟨os,hos,hcs,hds⟩:=id hs
 unfold Builtin.Slice.sliceApplied Builtin.Slice.sliceFields
 refine ao (ao (wpAny_field hos hds (x:=vl) rfl (ao (wpAny_field hos hds (x:=vu) rfl (ao (wpAny_field hos hds (x:=.none) rfl (aS ?_)))))))
 refine ao (slicePart_none ?_)
 show wpAny _ _ (if ((1:Int) == 0)=true then _ else _) _ _ s
 rw[if_neg (by decide)]
 refine ao (Hs pl (ao (Hs pu (ao (aS ?_)))))
 show wpAny _ _ (match Builtin.Slice.sliceAdjust lo hi 1 (n:Int) with | (lo,hi)=>pure (lo,(1:Int),Builtin.Slice.slicePlaces lo hi 1)) _ _ s
 rw[QO lo hi n]
 show wpAny _ _ (pure (((sIx n 0 lo:Nat):Int),(1:Int),Builtin.Slice.slicePlaces ((sIx n 0 lo:Nat):Int) ((sIx n n hi:Nat):Int) 1)) _ _ s
 rw[Qd]
 exact aS h
theorem TB (xs:Array Value) (i k:Nat):((bS k).filterMap fun(m:Nat)=>xs[((i:Int)+(m:Int) * 1).toNat]?).toArray=((xs.toList.drop i).take k).toArray:=by
 have e:(fun(m:Nat)=>xs[((i:Int)+(m:Int) * 1).toNat]?)=fun m=>xs[i+m]?:=by
  funext m
  have:((i:Int)+(m:Int) * 1).toNat=i+m:=by omega
  rw[this]
 rw[e]
 have:=pick_run xs i k
 rw[List.filterMap_map] at this
 have e2:((fun x=>xs[x]?)∘fun x=>i+x)=fun m=>xs[i+m]?:=rfl
 rw[e2] at this
 rw[this]
theorem Df {t sl:Addr}{items:Array Value}{vl vu:Value}{lo hi:Option Int}{Q:Value→Shared→Prop} (ht:IsTup s.heap t items) (hs:s.heap.IsSliceOf sl vl vu .none) (pl:IsPart vl lo) (pu:IsPart vu hi)
 (hw:¬ (sIx items.size 0 lo=0∧sIx items.size items.size hi=items.size))
 (h:Q (.ref s.heap.objs.size) { s with heap:=s.heap.push { cls:=.type "tuple",data:=.seq ((items.toList.drop (sIx items.size 0 lo)).take (sIx items.size items.size hi - sIx items.size 0 lo)).toArray } })
 (hsz:items.size≤sizeLine):wpAny (model prog w) A (getItem (.ref t) (.ref sl)) Q E s:=by
 have Rn:sizeOk (.seq ((items.toList.drop (sIx items.size 0 lo)).take (sIx items.size items.size hi - sIx items.size 0 lo)).toArray):=by
  show((items.toList.drop (sIx items.size 0 lo)).take (sIx items.size items.size hi - sIx items.size 0 lo)).toArray.size≤sizeLine
  rw[a8,rA,dy,tM]
  omega
 have hj:sIx items.size items.size hi≤items.size:=Xl _ _ (aB _) hi
 obtain⟨os,hos,hcs,hds⟩:=id hs
 have hTs:s.TypeIs (.ref sl) "slice":=⟨os,hos,hcs⟩
 unfold getItem
 try with_reducible refine jP ?_
 first | refine ao (aS ?_) | skip
 refine ao (wpAny_sequenceKey ht.typeIs (by decide) ?_)
 refine ao (AR (name:=Str.ofString "__getitem__") ht.typeIs nS
  (tN nS ht.typeIs entry_tuple_getitem ?_ (args_tuple_getitem _ _)))
 show wpAny _ _ (Builtin.Tuple.tupleItemsOf (.ref t) >>= _) _ _ s
 refine ao (tupleItemsOf_ ht ?_)
 refine ao (BZ hTs ?_)
 rw[if_pos (by decide)]
 refine ao (Ef hs pl pu ?_)
 have hno:¬ ((((sIx items.size 0 lo:Nat):Int) == 0 && (1:Int) == 1 && (sIx items.size items.size hi - sIx items.size 0 lo) == items.size)=true):=by
  intro q
  rw[a5,a5] at q
  have q1:((sIx items.size 0 lo:Nat):Int)=0:=eq_of_beq q.1.1
  have q2:sIx items.size items.size hi - sIx items.size 0 lo=items.size:=eq_of_beq q.2
  exact hw ⟨by omega,by omega⟩
 show wpAny _ _ (if (((sIx items.size 0 lo:Nat):Int) == 0 && (1:Int) == 1 && (sIx items.size items.size hi - sIx items.size 0 lo) == items.size)=true then _ else _) _ _ s
 rw[if_neg hno,TB]
 first
  | exact ao (m:=Builtin.Tuple.tupleExact _) (gY (aS ⟨_,rfl,aS h⟩) Rn)
  | exact ao (m:=Builtin.Tuple.tupleExact _) (gY (ao (aS (aS ⟨_,rfl,aS h⟩))) Rn)
  | exact ao (ao (m:=Builtin.Tuple.tupleExact _) (gY (aS (aS ⟨_,rfl,aS h⟩)) Rn))
  | exact ao (ao (m:=Builtin.Tuple.tupleExact _) (gY (aS ⟨_,rfl,aS h⟩) Rn))
end
end HT
namespace L2
open PySem PySem.Spec PyProof.Rows
abbrev TO:=St→Hp→(Option Int→Hp→Prop)→Prop
def PO (X:Cx) (e:Option Expr) (t:TO):Prop:=
 ∀ (pins:List (Addr×Obj)) (s:Shared) (σ:St) (H:Hp) (Q:Option Int→Hp→Prop),Inv X pins σ H s→t σ H Q→
   wpAny (model X.prog X.w) X.A (evalPart e X.env) (fun u s'=>∃ o H',Inv X pins σ H' s'∧IsPart u o∧Q o H') X.xe s
def Vz:TO:=fun _ H Q=>Q none H
def YQ (t:TE):TO:=fun σ H Q=>t σ H fun x H1=>∃ i,x=.int i∧Q (some i) H1
theorem intsAre_of {ns:List Int}:∀ {us:List Value},Vals (ns.map V.int) us→IntsAre us ns:=by
 induction ns with
 | nil=>intro us r;rw[tX] at r;cases r;exact .nil
 | cons n ns ih=>
   intro us r
   rw[aU] at r
   cases r with
   | cons r1 r2=>
     obtain⟨t,e⟩:=r1
     subst e
     exact .cons n t (ih r2)
section
variable {X:Cx}{e:Expr}{te:TE}{lo hi:Option Expr}{tl th:TO}{pos p2:Pos}
theorem Ra:PO X none Vz:=by
 intro pins s σ H Q I h
 rw[evalPart_none]
 exact aS ⟨none,H,I,.none,h⟩
theorem GJ (h:PE X e te):PO X (some e) (YQ te):=by
 intro pins s σ H Q I hw
 rw[evalPart_some]
 refine thn (h pins s σ H _ I hw) fun u s1 ⟨x,H1,I1,r1,q1⟩=>?_
 obtain⟨i,rfl,q⟩:=q1
 obtain⟨t,rfl⟩:=r1
 exact⟨some i,H1,I1,.int i t,q⟩
def SlR (X:Cx) (r:V→Option Int→Option Int→Hp→VK→Prop):Prop:=
 ∀ (pins:List (Addr×Obj)) (s:Shared) (σ:St) (H:Hp) (x:V) (v vl vu:Value) (lo hi:Option Int) (sl:Addr) (Q:VK),Inv X pins σ H s→RelV x v→s.heap.IsSliceOf sl vl vu .none→IsPart vl lo→IsPart vu hi→r x lo hi H Q→
   ∃ T id,typeLookup (.type T) "__getitem__"=pure (some (.builtin id))∧s.TypeIs v T∧wpAny (model X.prog X.w) X.A (getItem v (.ref sl)) (EP X pins σ Q) X.xe s
def tSl (r:V→Option Int→Option Int→Hp→VK→Prop) (te:TE) (tl th:TO):TE:=fun σ H Q=>te σ H fun x H1=>tl σ H1 fun l H2=>th σ H2 fun u H3=>r x l u H3 Q
theorem HH {r:V→Option Int→Option Int→Hp→VK→Prop} (hr:SlR X r) (he:PE X e te) (hl:PO X lo tl) (hu:PO X hi th):PE X (.Subscript e (.Slice lo hi none p2) pos) (tSl r te tl th):=by
 intro pins s σ H Q I h
 refine Subscript_ (thn (he pins s σ H _ I h) fun v s1 ⟨x,H1,I1,r1,q1⟩=>?_)
 refine wpAny_Slice (thn (hl pins s1 σ H1 _ I1 q1) fun vl s2 ⟨l,H2,I2,pl,q2⟩=>thn (hu pins s2 σ H2 _ I2 q2) fun vu s3 ⟨u,H3,I3,pu,q3⟩=>?_)
 rw[evalPart_none]
 refine aS ?_
 have I4:Inv X pins σ H3 { s3 with heap:=s3.heap.push { cls:=.type "slice",data:=.fields #[vl,vu,.none] } }:=I3.kept (t':=s3.toks) fun b ob q=>Heap.get?_push_of_some _ q
 obtain⟨T,id,hT,ht,hg⟩:=hr pins { s3 with heap:=s3.heap.push { cls:=.type "slice",data:=.fields #[vl,vu,.none] } } σ H3 x v vl vu l u s3.heap.objs.size Q I4 r1 (Heap.IsSliceOf.new ..) pl pu q3
 show wpAny (model X.prog X.w) X.A (subscriptTail e (.Slice lo hi none p2) v (.ref s3.heap.objs.size)) (EP X pins σ Q) X.xe { s3 with heap:=s3.heap.push { cls:=.type "slice",data:=.fields #[vl,vu,.none] } }
 exact tail_any (ops:=[.ref s3.heap.objs.size,v]) ht hT hg (by with_unfolding_all rfl)
def I0 (xs:List V) (lo hi:Option Int):List V:=(xs.drop (HT.sIx xs.length 0 lo)).take (HT.sIx xs.length xs.length hi - HT.sIx xs.length 0 lo)
theorem Fu (xs:List V) (lo hi:Option Int):(I0 xs lo hi).length≤xs.length:=by
 unfold I0
 rw[rA,dy]
 omega
def aaS (K:ai):V→Option Int→Option Int→Hp→VK→Prop:=fun x lo hi H Q=>∃ a xs,x=.ref a∧SqT K H a xs∧
 ¬ (HT.sIx xs.length 0 lo=0∧HT.sIx xs.length xs.length hi=xs.length)∧∀ p,H p=none→Q (.ref p) (upd H p (.tup (I0 xs lo hi)))
theorem Th:SlR X (aaS X.K):=by
 intro pins s σ H x v vl vu lo hi sl Q I rx hs pl pu h
 obtain⟨a,xs,rfl,hx,hw,q⟩:=h
 cases rx
 obtain⟨its,r,ht,hz⟩:=I.tuple hx
 have hlen:its.toArray.size=xs.length:=by rw[a8];exact r.length.symm
 refine⟨"tuple",_,nS.lookup,ht.typeIs,?_⟩
 refine HT.Df ht hs pl pu (by rw[hlen];exact hw) ?_ (by rw[hlen];exact hz)
 rw[hlen]
 refine⟨.ref s.heap.objs.size,_,I.laid (t':=s.toks) (o:=.tup (I0 xs lo hi)) (fun b ob q=>Heap.get?_push_of_some _ q) (aB _) ?_,rfl,q _ (I.hok.fresh (aB _))⟩
 exact⟨bP (Fu xs lo hi) hz,_,(r.drop (HT.sIx xs.length 0 lo)).take (HT.sIx xs.length xs.length hi - HT.sIx xs.length 0 lo),w4.new _ _⟩
end
end L2
namespace L2
open PySem PySem.Spec PyProof.Rows
def ixN (n:Nat) (i:Int):Option Nat:=if 0≤i then (if i < n then some i.toNat else none) else if -(n:Int)≤i then some (i+n).toNat else none
def atI {α:Type} (xs:List α) (i:Int):Option α:=(ixN xs.length i).bind fun j=>xs[j]?
theorem Rk {n:Nat}{i:Int}{j:Nat} (h:ixN n i=some j):seqIndex? i n=some j∧j < n∧-(n:Int)≤i∧i < n:=by
 unfold ixN at h
 by_cases h0:0≤i
 ·rw[if_pos h0] at h
  by_cases h1:i < n
  ·rw[if_pos h1] at h
   have e:i.toNat=j:=aa h
   exact⟨by rw[seqIndex_of h0 h1,e],by omega,by omega,h1⟩
  ·rw[if_neg h1] at h;cases h
 ·rw[if_neg h0] at h
  by_cases h1:-(n:Int)≤i
  ·rw[if_pos h1] at h
   have e:(i+n).toNat=j:=aa h
   exact⟨by rw[seqIndex_neg (by omega) h1,e],by omega,h1,by omega⟩
  ·rw[if_neg h1] at h;cases h
theorem RH {α:Type}{xs:List α}{i:Int}{v:α} (h:atI xs i=some v):∃ j,seqIndex? i xs.length=some j∧xs[j]?=some v∧j < xs.length∧-(xs.length:Int)≤i∧i < xs.length:=by
 unfold atI at h
 cases e:ixN xs.length i with
 | none=>rw[e] at h;cases h
 | some j=>
   rw[e] at h
   obtain⟨h1,h2,h3,h4⟩:=Rk e
   exact⟨j,h1,h,h2,h3,h4⟩
theorem aF {α:Type}{xs:List α}{j:Nat}{v:α} (h:xs[j]?=some v):atI xs (j:Int)=some v:=by
 have hj:j < xs.length:=(aP.mp h).1
 have e:ixN xs.length (j:Int)=some j:=by
  unfold ixN
  rw[if_pos (by omega),if_pos (by omega)];simp
 unfold atI;rw[e];exact h
def Ws (b:Expr):Prop:=∀ o i,subscripted b false o i=operate [o,i] (getItem o i)
def IxR (X:Cx) (r:R2):Prop:=
 ∀ (value slice:Expr) (pins:List (Addr×Obj)) (s:Shared) (σ:St) (H:Hp) (x y:V) (v u:Value) (Q:VK),Inv X pins σ H s→RelV x v→RelV y u→r x y H Q→
   subscripted slice false v u=operate [v,u] (getItem v u)→wpAny (model X.prog X.w) X.A (subscriptTail value slice v u) (EP X pins σ Q) X.xe s
def MtR (X:Cx) (id:String) (r:V→List V→Hp→VK→Prop):Prop:=
 ∀ (pins:List (Addr×Obj)) (s:Shared) (σ:St) (H:Hp) (x:V) (xs:List V) (v:Value) (us:List Value) (Q:VK),Inv X pins σ H s→RelV x v→Vals xs us→r x xs H Q→
   wpAny (model X.prog X.w) X.A (call (.builtin id) (v::us)) (EP X pins σ Q) X.xe s
section
variable {X:Cx}{a b:Expr}{ta tb:TE}{pos:Pos}
theorem a9 {r:R2} (hr:IxR X r) (ha:PE X a ta) (hb:PE X b tb) (hs:Ws b):PE X (.Subscript a b pos) (tOp r ta tb):=by
 intro pins s σ H Q I h
 exact Subscript_ (Yt ha hb I h fun v u s2 x y H2 I2 rx ry q=>hr a b pins s2 σ H2 x y v u Q I2 rx ry q (hs _ _))
inductive aat (K:ai) (xs:List V) (H:Hp) (Q:VK):Prop | mk (p:Addr) (ys:List V) (_:xs=[.ref p]) (_:SqL K H p ys∨SqT K H p ys) (_:Q (.int ys.length) H):aat K xs H Q
inductive aav (K:ai) (x y:V) (H:Hp) (Q:VK):Prop | mk (p:Addr) (xs:List V) (i:Int) (v:V) (_:x=.ref p) (_:y=.int i) (_:SqL K H p xs) (_:atI xs i=some v) (_:Q v H):aav K x y H Q
def R6 (K:ai):R2:=fun x y H Q=>aav K x y H Q
inductive aau (K:ai) (x y:V) (H:Hp) (Q:VK):Prop | mk (p:Addr) (xs:List V) (i:Int) (v:V) (_:x=.ref p) (_:y=.int i) (_:SqT K H p xs) (_:atI xs i=some v) (_:Q v H):aau K x y H Q
def tR (K:ai):R2:=fun x y H Q=>aau K x y H Q
theorem fj:IxR X (R6 X.K):=by
 intro value slice pins s σ H x y v u Q I rx ry h hs
 obtain⟨p,xs,i,z,rfl,rfl,hq,he,q⟩:=h
 cases rx
 obtain⟨t,rfl⟩:=ry
 obtain⟨its,r,pl,hz⟩:=I.list hq
 obtain⟨j,h1,h2,h3,h4,h5⟩:=RH he
 obtain⟨w,ew,rw'⟩:=r.get h2
 have hl:=r.length
 have hn:=MN
 have fin:EP X pins σ Q w s:=⟨z,H,I,rw',q⟩
 by_cases h0:0≤i
 ·have hj:i.toNat=j:=by
   rw[seqIndex_of h0 h5] at h1
   exact aa h1
  exact item_listR pl.isList h0 (by omega) (by rw[hj];simpa using ew) fin hs
 ·have hj:(i+(its.toArray.size:Int)).toNat=j:=by
   rw[seqIndex_neg (by omega) h4] at h1
   rw[a8,← hl]
   exact aa h1
  exact subscriptTail_builtinR (x:=w) pl.isList.typeIs slot_list_getitem.lookup
   (wpAny_getItem_list_neg (Q:=fun r s'=>r=w∧EP X pins σ Q r s') pl.isList (by omega) (by rw[a8]<;>omega) (by omega) (by rw[hj];simpa using ew) ⟨rfl,fin⟩) hs
theorem aY:IxR X (tR X.K):=by
 intro value slice pins s σ H x y v u Q I rx ry h hs
 obtain⟨p,xs,i,z,rfl,rfl,hq,he,q⟩:=h
 cases rx
 obtain⟨t,rfl⟩:=ry
 obtain⟨its,r,pl,hz⟩:=I.tuple hq
 obtain⟨j,h1,h2,h3,h4,h5⟩:=RH he
 obtain⟨w,ew,rw'⟩:=r.get h2
 have hl:=r.length
 have hn:=MN
 have fin:EP X pins σ Q w s:=⟨z,H,I,rw',q⟩
 exact subscriptTail_builtinR (x:=w) pl.typeIs slot_tuple_getitem.lookup
  (getItem_tuple (j:=j) (Q:=fun r s'=>r=w∧EP X pins σ Q r s') pl (by omega) (by omega) (by rw[a8,← hl];exact h1) (by simpa using ew) ⟨rfl,fin⟩) hs
theorem Qn (its:List Value) (n j:Nat) (u:Value):Obj.mapSeq (·.setIfInBounds j u) { cls:=.type "list",data:=.seq its.toArray n }={ cls:=.type "list",data:=.seq (its.set j u).toArray n }:=by
 simp[Obj.mapSeq]
theorem Inv.lst {pins:List (Addr×Obj)}{σ:St}{H:Hp}{s:Shared}{p:Addr}{xs:List V} (I:Inv X pins σ H s) (h:H p=some (.lst xs)):
 ∃ (its:List Value) (n:Nat),Vals xs its∧s.heap.get? p=some { cls:=.type "list",data:=.seq its.toArray n }∧xs.length≤sizeLine:=by
 obtain⟨z,its,n,r,e⟩:=I.hok p _ h
 exact⟨its,n,r,e,z⟩
theorem Inv.XH {pins:List (Addr×Obj)}{σ:St}{H:Hp}{s:Shared}{p:Addr}{xs ys:List V}{its its':List Value}{n n':Nat}{f:Obj→Obj} (I:Inv X pins σ H s) (h:H p=some (.lst xs))
 (ho:s.heap.get? p=some { cls:=.type "list",data:=.seq its.toArray n }) (hf:f { cls:=.type "list",data:=.seq its.toArray n }={ cls:=.type "list",data:=.seq its'.toArray n' }) (r:Vals ys its') (hz:ys.length≤sizeLine) (t:Nat):
 Inv X pins σ (upd H p (.lst ys)) { s with heap:=s.heap.update p f,toks:=t }:=by
 have e:(s.heap.update p f).get? p=some { cls:=.type "list",data:=.seq its'.toArray n' }:=by
  rw[Heap.get?_update_self f ho (by rw[hf]<;>rfl),hf]
 refine I.write (x:=p) (e:=p) (by rw[h];trivial) (.inl rfl) (fun b u hb q=>(Heap.get?_update_other _ _ (br hb)).trans q) ⟨_,e⟩ ?_
 exact⟨hz,its',n',r,e⟩
def Y4:V→V→V→Hp→(Hp→Prop)→Prop:=fun o i v H Q=>∃ p xs k j,o=.ref p∧i=.int k∧H p=some (.lst xs)∧ixN xs.length k=some j∧Q (upd H p (.lst (xs.set j v)))
theorem set_list:aam X Y4:=by
 intro pins s σ H o i v ov iv u Q I ro ri rv h
 obtain⟨p,xs,k,j,rfl,rfl,hp,hj,q⟩:=h
 cases ro
 obtain⟨t,rfl⟩:=ri
 obtain⟨its,n,r,ho,hz⟩:=I.lst hp
 obtain⟨h1,h2,h3,h4⟩:=Rk hj
 have hl:=r.length
 have hn:=MN
 have I':Inv X pins σ (upd H p (.lst (xs.set j v))) { s with heap:=s.heap.update p (Obj.mapSeq (·.setIfInBounds j u)) }:=
  I.XH hp ho (Qn its n j u) (r.set rv j) (by rw[kR];exact hz) s.toks
 by_cases h0:0≤k
 ·have hk:k.toNat=j:=by
   rw[seqIndex_of h0 h4] at h1
   exact aa h1
  exact PySem.W.ki_setAt ho h0 (by omega) (by rw[a8,← hl];exact h4) (by rw[hk];exact⟨_,I',q⟩)
 ·have hk:(k+(its.toArray.size:Int)).toNat=j:=by
   rw[seqIndex_neg (by omega) h3] at h1
   rw[a8,← hl]
   exact aa h1
  exact PySem.W.ki_setBack ho (by omega) (by rw[a8,← hl];exact h3) (by omega) (by rw[hk];exact⟨_,I',q⟩)
theorem L9 (lo hi:Option Int) (n:Nat):(sliceBounds lo hi none n).1=((HT.sIx n 0 lo:Nat):Int)∧(sliceBounds lo hi none n).2.1=((HT.sIx n n hi:Nat):Int)∧(sliceBounds lo hi none n).2.2=1:=by
 refine⟨?_,?_,rfl⟩
 ·cases lo with
  | none=>simp[sliceBounds,HT.sIx]
  | some i=>
    simp only[sliceBounds,HT.sIx,Option.getD_none,show(1:Int) > 0 by decide,if_true]
    by_cases h:i < 0
    ·simp only[h,if_true]<;>omega
    ·simp only[h,if_false]<;>omega
 ·cases hi with
  | none=>simp[sliceBounds,HT.sIx]
  | some i=>
    simp only[sliceBounds,HT.sIx,Option.getD_none,show(1:Int) > 0 by decide,if_true]
    by_cases h:i < 0
    ·simp only[h,if_true]<;>omega
    ·simp only[h,if_false]<;>omega
theorem JO (its:List Value) (lo hi:Option Int):slicePick its.toArray lo hi none=((its.drop (HT.sIx its.length 0 lo)).take (HT.sIx its.length its.length hi - HT.sIx its.length 0 lo)).toArray:=by
 obtain⟨h1,h2,h3⟩:=L9 lo hi its.toArray.size
 unfold slicePick
 rw[h1,h2,h3]
 simp only[sliceRange_one,pick_run,a8]<;>rfl
def aaT (K:ai):V→Option Int→Option Int→Hp→VK→Prop:=fun x lo hi H Q=>∃ a xs,x=.ref a∧SqL K H a xs∧∀ p,H p=none→Q (.ref p) (upd H p (.lst (I0 xs lo hi)))
theorem VD:SlR X (aaT X.K):=by
 intro pins s σ H x v vl vu lo hi sl Q I rx hs pl pu h
 obtain⟨a,xs,rfl,hx,q⟩:=h
 cases rx
 obtain⟨its,r,ht,hz⟩:=I.list hx
 have hlen:=r.length
 refine⟨"list",_,slot_list_getitem.lookup,ht.isList.typeIs,?_⟩
 refine wpAny_getItem_list_slice ht.isList hs pl pu .none (by simp) ?_ (by rw[a8]<;>omega)
 rw[JO,← hlen]
 refine⟨.ref s.heap.objs.size,_,I.laid (t':=s.toks) (o:=.lst (I0 xs lo hi)) (fun b ob q=>Heap.get?_push_of_some _ q) (aB _) ?_,rfl,q _ (I.hok.fresh (aB _))⟩
 exact⟨bP (Fu xs lo hi) hz,_,0,(r.drop (HT.sIx xs.length 0 lo)).take (HT.sIx xs.length xs.length hi - HT.sIx xs.length 0 lo),Heap.get?_push_size _ rfl⟩
def vz:V→Bool
 | .non=>true
 | .bl _=>true
 | .int _=>true
 | .str _=>true
 | _=>false
def eqV:V→V→Bool
 | .non,.non=>true
 | .bl a,.bl b=>a == b
 | .bl a,.int b=>(if a then 1 else 0) == b
 | .int a,.bl b=>a == (if b then 1 else 0)
 | .int a,.int b=>a == b
 | .str a,.str b=>a == b
 | _,_=>false
theorem Yp {A:Around}{s:Shared}{y x:V}{u v:Value} (ry:RelV y u) (rx:RelV x v) (fy:vz y=true) (fx:vz x=true):SeqAt.EqAt A s u v (eqV y x):=by
 cases y with
 | non=>
   cases ry
   cases x with
   | non=>cases rx;exact SeqAt.EqAt.same _
   | bl b=>cases rx;exact SeqAt.EqAt.none_bool b
   | int b=>obtain⟨t,rfl⟩:=rx;exact SeqAt.EqAt.none_int b t
   | str b=>obtain⟨t,rfl⟩:=rx;exact SeqAt.EqAt.none_str b t
   | _=>exact absurd (show false=true from fx) aZ
 | bl a=>
   cases ry
   cases x with
   | non=>cases rx;exact SeqAt.EqAt.bool_none a
   | bl b=>cases rx;exact SeqAt.EqAt.bool_bool a b
   | int b=>obtain⟨t,rfl⟩:=rx;exact SeqAt.EqAt.bool_int a b t
   | str b=>obtain⟨t,rfl⟩:=rx;exact SeqAt.EqAt.bool_str a b t
   | _=>exact absurd (show false=true from fx) aZ
 | int a=>
   obtain⟨t',rfl⟩:=ry
   cases x with
   | non=>cases rx;exact SeqAt.EqAt.int_none a t'
   | bl b=>cases rx;exact SeqAt.EqAt.int_bool a t' b
   | int b=>obtain⟨t,rfl⟩:=rx;exact SeqAt.EqAt.int_int a t' b t
   | str b=>obtain⟨t,rfl⟩:=rx;exact SeqAt.EqAt.int_str a t' b t
   | _=>exact absurd (show false=true from fx) aZ
 | str a=>
   obtain⟨t',rfl⟩:=ry
   cases x with
   | non=>cases rx;exact SeqAt.EqAt.str_none a t'
   | bl b=>cases rx;exact SeqAt.EqAt.str_bool a t' b
   | int b=>obtain⟨t,rfl⟩:=rx;exact SeqAt.EqAt.str_int a t' b t
   | str b=>obtain⟨t,rfl⟩:=rx;exact SeqAt.EqAt.str_str a t' b t
   | _=>exact absurd (show false=true from fx) aZ
 | _=>exact absurd (show false=true from fy) aZ
def eqU (x:V) (u:Value):Bool:=match u with
 | .none=>eqV .non x
 | .bool b=>eqV (.bl b) x
 | .int i _=>eqV (.int i) x
 | .str z _=>eqV (.str z) x
 | _=>false
theorem MZ {x y:V}{u:Value} (r:RelV y u) (f:vz y=true):eqU x u=eqV y x:=by
 cases y with
 | non=>cases r;rfl
 | bl b=>cases r;rfl
 | int i=>obtain⟨t,rfl⟩:=r;rfl
 | str z=>obtain⟨t,rfl⟩:=r;rfl
 | _=>exact absurd (show false=true from f) aZ
theorem Na {x:V}:∀ {xs:List V}{us:List Value},Vals xs us→xs.all vz=true→us.any (eqU x)=xs.any fun y=>eqV y x
 | _,_,.nil,_=>rfl
 | y::xs,u::us,.cons r t,f=>by
   rw[kS,a5] at f
   rw[rS,rS,MZ r f.1,Na t f.2]
theorem C3 {A:Around}{s:Shared}{x:V}{v:Value} (rx:RelV x v) (fx:vz x=true):∀ {xs:List V}{us:List Value},Vals xs us→xs.all vz=true→∀ u∈us,SeqAt.EqAt A s u v (eqU x u)
 | _,_,.nil,_=>fun u hu=>by cases hu
 | y::xs,u::us,.cons r t,f=>fun u' hu=>by
   rw[kS,a5] at f
   rcases aC.mp hu with rfl | hu
   ·rw[MZ r f.1];exact Yp r rx f.1 fx
   ·exact C3 rx fx t f.2 u' hu
def inV (x:V) (xs:List V):Bool:=xs.any fun y=>eqV y x
def rIn (K:ai) (neg:Bool):R2:=fun x y H Q=>∃ p xs,y=.ref p∧(SqL K H p xs∨SqT K H p xs)∧vz x=true∧xs.all vz=true∧Q (.bl (if neg then !inV x xs else inV x xs)) H
theorem CH:OpR X (compareOp .NotIn) (rIn X.K true):=by
 intro pins s σ H x y v u Q I rx ry h
 obtain⟨p,xs,rfl,hq,fx,fs,q⟩:=h
 cases ry
 rcases hq with hq | hq
 ·obtain⟨its,r,pl,hz⟩:=I.list hq
  refine SeqAt.notIn_listAt (eqU x) pl.isList (fun w hw=>C3 rx fx r fs w (by simpa using hw)) ⟨.bl _,H,I,rfl,?_⟩
  rw[show its.toArray.any (eqU x)=its.any (eqU x) by simp,Na r fs]
  exact q
 ·obtain⟨its,r,pl,hz⟩:=I.tuple hq
  refine SeqAt.notIn_tupleAt (eqU x) pl (fun w hw=>C3 rx fx r fs w (by simpa using hw)) ⟨.bl _,H,I,rfl,?_⟩
  rw[show its.toArray.any (eqU x)=its.any (eqU x) by simp,Na r fs]
  exact q
theorem cj:FA X (.builtin "len") (aat X.K):=by
 intro pins s σ H xs us Q I r h
 obtain⟨p,ys,rfl,hq,q⟩:=h
 obtain⟨u,rfl,rx⟩:=vals1 r
 cases rx
 have hn:=MN
 rcases hq with hq | hq
 ·obtain⟨its,r',pl,hz⟩:=I.list hq
  have hlen:=r'.length
  exact Calls.call_len_list pl.isList (by simp only[a8]<;>omega) ⟨.int ys.length,H,I.tok _,⟨s.toks+1,by rw[a8,hlen]⟩,q⟩
 ·obtain⟨its,r',pl,hz⟩:=I.tuple hq
  have hlen:=r'.length
  exact len_tuple pl (by simp only[a8]<;>omega) ⟨.int ys.length,H,I.tok _,⟨s.toks+1,by rw[a8,hlen]⟩,q⟩
theorem M8:FA X (.type "list") (fun xs H Q=>∃ p ys,xs=[.ref p]∧(SqL X.K H p ys∨SqT X.K H p ys)∧∀ l,H l=none→Q (.ref l) (upd H l (.lst ys))):=by
 intro pins s σ H xs us Q I r h
 obtain⟨p,ys,rfl,hq,q⟩:=h
 obtain⟨u,rfl,rx⟩:=vals1 r
 cases rx
 have fin:∀ (its:List Value),Vals ys its→ys.length≤sizeLine→∀ (h':Heap) (c':Nat),(∀ b o',s.heap.get? b=some o'→h'.get? b=some o')→
  h'.get? s.heap.objs.size=some { cls:=.type "list",dict:=none,data:=.seq its.toArray c',slots:=#[] }→EP X pins σ Q (.ref s.heap.objs.size) { s with heap:=h' }:=fun its r' hz h' c' kp e=>
  ⟨.ref s.heap.objs.size,_,I.laid (t':=s.toks) kp (aB _) (show i5 X.prog X.w _ h' _ (.lst ys) from⟨hz,its,c',r',e⟩),rfl,q _ (I.hok.fresh (aB _))⟩
 rcases hq with hq | hq
 ·obtain⟨its,r',pl,hz⟩:=I.list hq
  have hlen:=r'.length
  obtain⟨o,ho,hc,n,hd⟩:=pl.isList
  exact call_list_seq p (.inl rfl) ho hc hd (fun h' c' kp e=>fin its r' hz h' c' kp e) (by simp only[a8]<;>omega)
 ·obtain⟨its,r',pl,hz⟩:=I.tuple hq
  have hlen:=r'.length
  obtain⟨o,ho,hc,n,hd⟩:=pl
  exact call_list_seq p (.inr rfl) ho hc hd (fun h' c' kp e=>fin its r' hz h' c' kp e) (by simp only[a8]<;>omega)
theorem AJ:FA X (.type "tuple") (fun xs H Q=>∃ p ys,xs=[.ref p]∧((SqL X.K H p ys∧∀ l,H l=none→Q (.ref l) (upd H l (.tup ys)))∨(SqT X.K H p ys∧Q (.ref p) H))):=by
 intro pins s σ H xs us Q I r h
 obtain⟨p,ys,rfl,h⟩:=h
 obtain⟨u,rfl,rx⟩:=vals1 r
 cases rx
 rcases h with ⟨hq,q⟩ | ⟨hq,q⟩
 ·obtain⟨its,r',pl,hz⟩:=I.list hq
  have hlen:=r'.length
  refine call_tuple_list pl.isList (fun h' kp=>?_) (by simp only[a8]<;>omega)
  have I1:Inv X pins σ H { s with heap:=h' }:=I.kept (t':=s.toks) kp
  have I2:Inv X pins σ (upd H h'.objs.size (.tup ys)) { s with heap:=h'.push { cls:=.type "tuple",data:=.seq its.toArray } }:=
   I1.laid (t':=s.toks) (fun b o e=>Heap.get?_push_of_some _ e) (aB _) (show i5 X.prog X.w _ _ _ (.tup ys) from⟨hz,its,r',w4.new _ _⟩)
  exact⟨.ref h'.objs.size,_,I2,rfl,q _ (I1.hok.fresh (aB _))⟩
 ·obtain⟨its,r',pl,hz⟩:=I.tuple hq
  exact call_tuple_same pl ⟨.ref p,H,I,rfl,q⟩
def tyV (K:ai) (T:String) (x:V) (H:Hp):Prop:=match x with
 | .str _=>T="str"
 | .int _=>T="int"
 | .ref p=>(T="list"∧∃ xs,SqL K H p xs)∨(T="tuple"∧∃ o,K.lookup p=some o∧o.cls=.type "tuple"∧o.dict=none)∨
  (T="dict"∧((∃ kvs,H p=some (.dK kvs))∨∃ kvs,H p=some (.dT kvs)))∨(T="set"∧∃ S n,H p=some (.set S n))
 | _=>False
theorem S8 {pins:List (Addr×Obj)}{σ:St}{H:Hp}{s:Shared}{T:String}{x:V}{v:Value} (I:Inv X pins σ H s) (r:RelV x v) (ty:tyV X.K T x H):
 s.TypeIs v T∧∀ a,v=.ref a→∃ ob,s.heap.get? a=some ob∧ob.dict=none:=by
 cases x with
 | str z=>
   obtain⟨t,rfl⟩:=r
   cases (show T="str" from ty)
   exact⟨typeIs_str s z t,fun _ e=>nomatch e⟩
 | int i=>
   obtain⟨t,rfl⟩:=r
   cases (show T="int" from ty)
   exact⟨typeIs_int s i t,fun _ e=>nomatch e⟩
 | ref p=>
   cases r
   rcases ty with ⟨rfl,xs,hq⟩ | ⟨rfl,o,hk,hc,hd⟩ | ⟨rfl,hk⟩ | ⟨rfl,S,n,hk⟩
   ·obtain⟨its,_,pl,_⟩:=I.list hq
    refine⟨pl.isList.typeIs,fun a e=>?_⟩
    cases e
    obtain⟨o,n,e,c,hd,_⟩:=pl
    exact⟨o,e,hd⟩
   ·refine⟨⟨o,I.kIn p o hk,hc⟩,fun a e=>?_⟩
    cases e
    exact⟨o,I.kIn _ o hk,hd⟩
   ·have z:∃ o,s.heap.get? p=some o∧o.ExactDict:=by
     rcases hk with ⟨kvs,hk⟩ | ⟨kvs,hk⟩
     ·obtain⟨_,_,_,_,o,_,_,e,ex,_⟩:=I.hok p _ hk
      exact⟨o,e,ex⟩
     ·obtain⟨_,_,_,_,o,_,_,e,ex,_⟩:=I.hok p _ hk
      exact⟨o,e,ex⟩
    obtain⟨o,e,ex⟩:=z
    refine⟨⟨o,e,ex.1⟩,fun a e2=>?_⟩
    cases e2
    exact⟨o,e,ex.2.1⟩
   ·obtain⟨o,_,_,_,e,ex,_⟩:=I.hok p _ hk
    refine⟨⟨o,e,ex.1⟩,fun a e2=>?_⟩
    cases e2
    exact⟨o,e,ex.2.1⟩
 | _=>exact dF ty
def aaO (K:ai) (T:String) (r:V→List V→Hp→VK→Prop) (to:TE):TE:=fun σ H Q=>to σ H fun x H1=>tyV K T x H1∧r x [] H1 Q
def tBM (K:ai) (T:String) (r:V→List V→Hp→VK→Prop) (to:TE) (t:TA):TE:=fun σ H Q=>to σ H fun x H1=>tyV K T x H1∧t σ H1 fun xs H2=>r x xs H2 Q
variable {o e:Expr}{es:List Expr}{to:TE}{t:TA}{name:Str}{apos vE:Pos}{T id:String}{r:V→List V→Hp→VK→Prop}
theorem TH (pa:PlainAttrs T) (slot:Slot T name id) (hty:typeOf (.builtin id)=pure (.type "method_descriptor")) (hm:MtR X id r) (ho:PE X o to)
 (UI:attributeBase o name X.env (eval o X.env)=eval o X.env:=by rfl) (Uy:(apos.endLine == vE.line)=true:=by rfl):PE X (.Call (.Attribute o name apos) [] [] vE) (aaO X.K T r to):=by
 intro pins s σ H Q I h
 refine wpAny_Call_method0_late UI Uy (thn (ho pins s σ H _ I h) fun v s1 ⟨x,H1,I1,r1,ty,q1⟩=>?_)
 obtain⟨h1,h2⟩:=S8 I1 r1 ty
 exact⟨T,id,pa,slot,hty,h1,h2,Calls.callWith_builtin rfl (PySem.evalArgs_none (hm pins s1 σ H1 x [] v [] Q I1 r1 .nil q1))⟩
theorem l5 (pa:PlainAttrs T) (slot:Slot T name id) (hty:typeOf (.builtin id)=pure (.type "method_descriptor")) (hm:MtR X id r) (ho:PE X o to) (ha:PA X (e::es) t)
 (UI:attributeBase o name X.env (eval o X.env)=eval o X.env:=by rfl)
 (acJ:((backTo vE (starEach (e::es) X.env)).all (fun x=>!x.1) && (backToKw vE (keywordEach [] X.env)).all (fun x=>x.1.isSome)
   && decide ((e::es).length+([]:List Keyword).length+(if ([]:List Keyword).isEmpty then 0 else 1) < 30))=true:=by rfl)
 (Uy:(apos.endLine == vE.line)=true:=by rfl) (hs:starEach (e::es) X.env=(false,eval e X.env)::starEach es X.env:=by rfl) (X1:(backTo vE (starEach es X.env)).any (·.1)=false:=by rfl):
 PE X (.Call (.Attribute o name apos) (e::es) [] vE) (tBM X.K T r to t):=by
 intro pins s σ H Q I h
 refine wpAny_Call_method_late UI acJ Uy rfl (thn (ho pins s σ H _ I h) fun v s1 ⟨x,H1,I1,r1,ty,q1⟩=>?_)
 obtain⟨h1,h2⟩:=S8 I1 r1 ty
 refine⟨T,id,pa,slot,hty,h1,h2,?_⟩
 have hA:=ha vE pins s1 σ H1 _ I1 q1
 rw[hs] at hA ⊢
 refine Calls.callWith_builtin (by show(false || (backTo vE (starEach es X.env)).any (·.1))=false;rw[X1]<;>rfl) (Calls.evalArgs_plain ?_)
 exact thn hA fun us s2 ⟨vs,H2,I2,r2,q2⟩=>hm pins s2 σ H2 x vs v us Q I2 r1 r2 q2
end
end L2
namespace L2
open PySem PySem.Spec PyProof.Rows
def MtM (X:Cx) (id:String) (r:V→List V→Hp→VK→Prop):Prop:=
 ∀ (pins:List (Addr×Obj)) (s:Shared) (σ:St) (H:Hp) (x:V) (xs:List V) (v:Value) (us:List Value) (Q:VK),Inv X pins σ H s→RelV x v→Vals xs us→r x xs H Q→
   wpAny (model X.prog X.w) X.A (call (.builtin id) (v::us)) (EP X pins σ Q) X.xe s
theorem Vals.one:∀ {x:V}{us:List Value},Vals [x] us→∃ u,us=[u]∧RelV x u
 | _,_,.cons r .nil=>⟨_,rfl,r⟩
theorem Vals.zero:∀ {us:List Value},Vals [] us→us=[]
 | _,.nil=>rfl
theorem Vals.dropLast {xs:List V}{us:List Value} (h:Vals xs us):Vals xs.dropLast us.dropLast:=by
 induction h with
 | nil=>exact .nil
 | cons r t ih=>
   cases t with
   | nil=>exact .nil
   | cons q t'=>exact .cons r ih
theorem Vals.rep {xs:List V}{us:List Value} (h:Vals xs us):∀ k:Nat,Vals (aj k xs).flatten (aj k us).flatten
 | 0=>.nil
 | k+1=>by
   rw[cv,cv,eC,eC]
   exact Vals.append h (Vals.rep h k)
theorem QG {α:Type} (l:List α):l.eraseIdx (l.length - 1)=l.dropLast:=by
 induction l with
 | nil=>rfl
 | cons a r ih=>
   cases r with
   | nil=>rfl
   | cons b r=>
     have e:(a::b::r).length - 1=((b::r).length - 1)+1:=by
      have h1:(a::b::r).length=r.length+2:=rfl
      have h2:(b::r).length=r.length+1:=rfl
      omega
     rw[e,List.eraseIdx_cons_succ,ih]
     all_goals rfl
theorem foldl_rep (its:List Value):∀ (k:Nat) (acc:List Value),
 List.foldl (fun x1 x2=>x1++x2) acc.toArray (aj k its.toArray)=(acc++(aj k its).flatten).toArray
 | 0,acc=>by simp
 | k+1,acc=>by
   have e:acc.toArray++its.toArray=(acc++its).toArray:=by simp
   have e2:(acc++its)++(aj k its).flatten=acc++(aj (k+1) its).flatten:=by
    rw[cv,eC,bK]
   rw[← e2,← foldl_rep its k (acc++its),← e,cv,bu]
section
variable {X:Cx}{pins:List (Addr×Obj)}{σ:St}{H:Hp}{s:Shared}{l b:Addr}{xs ys zs:List V}
theorem Inv.XI {its its':List Value}{n:Nat}{f:Array Value→Array Value}{t':Nat} (I:Inv X pins σ H s) (hH:H l=some (.lst xs))
 (e:s.heap.get? l=some { cls:=.type "list",data:=.seq its.toArray n }) (hf:f its.toArray=its'.toArray) (hv:Vals ys its') (hz:ys.length≤sizeLine):
 Inv X pins σ (upd H l (.lst ys)) { s with heap:=s.heap.update l (Obj.mapSeq f),toks:=t' }:=by
 have q:=PySem.IsL.update e f
 rw[hf] at q
 refine I.write (x:=l) (e:=l) (by rw[hH];exact trivial) (.inl rfl) (fun b' u hb hu=>(Heap.get?_update_other s.heap (Obj.mapSeq f) (br hb)).trans hu) ⟨_,q⟩ ?_
 exact⟨hz,its',_,hv,q⟩
theorem Inv.Zi {its:List Value}{t':Nat} (I:Inv X pins σ H s) (hv:Vals ys its) (hz:ys.length≤sizeLine):
 Inv X pins σ (upd H s.heap.objs.size (.lst ys)) { s with heap:=s.heap.push { cls:=.type "list",data:=.seq its.toArray },toks:=t' }:=
 I.laid (fun _ _ q=>Heap.get?_push_of_some _ q) (aB _) ⟨hz,its,0,hv,Heap.get?_push_size _ rfl⟩
theorem Inv.fresh (I:Inv X pins σ H s):H s.heap.objs.size=none:=I.hok.fresh (aB _)
theorem Inv.Qq (I:Inv X pins σ H s) (hH:H l=some (.lst xs)):xs.length≤sizeLine∧∃ (its:List Value) (n:Nat),Vals xs its∧xs.length=its.length∧s.heap.get? l=some { cls:=.type "list",data:=.seq its.toArray n }:=by
 obtain⟨z,its,n,r,e⟩:=I.hok l _ hH
 exact⟨z,its,n,r,r.length,e⟩
theorem Og {n:Nat} (h:n≤sizeLine):Builtin.List.listTooLong n=false:=by
 unfold Builtin.List.listTooLong
 exact decide_eq_false (by omega)
end
section
variable {X:Cx}
inductive aaC (x:V) (vs:List V) (H:Hp) (Q:VK):Prop | mk (l:Addr) (xs:List V) (y:V) (_:x=.ref l) (_:vs=[y]) (_:H l=some (.lst xs)) (_:xs.length < sizeLine) (_:Q .non (upd H l (.lst (xs++[y])))):aaC x vs H Q
def VH:V→List V→Hp→VK→Prop:=fun x vs H Q=>aaC x vs H Q
theorem d5:MtM X "list.append" VH:=by
 intro pins s σ H x vs v us Q I rx rv h
 obtain⟨l,xs,y,rfl,rfl,hH,hz,q⟩:=h
 cases rx
 obtain⟨u,rfl,ru⟩:=rv.one
 obtain⟨z,its,n,r,hl,e⟩:=I.Qq hH
 refine tO F.slot_list_append ⟨_,e,rfl⟩ F.entry_list_append (F.args_list_append_2 _ _) (PySem.list_append l its.toArray n u (by rw[a8];omega)) ⟨e,?_⟩
 refine⟨.non,_,I.XI (its':=its++[u]) hH e (by simp) (r.append (.cons ru .nil)) ?_,rfl,q⟩
 rw[au,bD]
 omega
inductive aax (x:V) (vs:List V) (H:Hp) (Q:VK):Prop | mk (l b:Addr) (xs zs:List V) (_:x=.ref l) (_:vs=[.ref b]) (_:H l=some (.lst xs)) (_:H b=some (.lst zs)) (_:xs.length+zs.length≤sizeLine) (_:Q .non (upd H l (.lst (xs++zs)))):aax x vs H Q
def VG:V→List V→Hp→VK→Prop:=fun x vs H Q=>aax x vs H Q
theorem vk:MtM X "list.extend" VG:=by
 intro pins s σ H x vs v us Q I rx rv h
 obtain⟨l,b,xs,zs,rfl,rfl,hH,hB,hz,q⟩:=h
 cases rx
 obtain⟨u,rfl,ru⟩:=rv.one
 cases ru
 obtain⟨z,its,n,r,hl,e⟩:=I.Qq hH
 obtain⟨z2,MO,n2,r2,hl2,e2⟩:=I.Qq hB
 have hsz:its.toArray.size+MO.toArray.size≤sizeLine:=by rw[a8,a8];omega
 have Ux:¬ (!its.toArray.isEmpty && Builtin.List.listTooLong (its.toArray.size+MO.toArray.size))=true:=by
  rw[Og hsz,Bool.and_false]
  exact aZ
 refine tO F.slot_list_extend ⟨_,e,rfl⟩ F.entry_list_extend (F.args_list_extend_2 _ _)
  (AutoSeq1.list_extend_list_list_0 l its.toArray n b MO.toArray n2 Ux (by rw[a8];omega) (by omega)) ⟨e,e2,?_⟩
 refine⟨.non,_,I.XI (its':=its++MO) hH e (by simp) (r.append r2) ?_,rfl,q⟩
 rw[au]
 omega
def aaU:V→List V→Hp→VK→Prop:=fun x vs H Q=>∃ l xs y,x=.ref l∧vs=[]∧H l=some (.lst xs)∧xs[xs.length - 1]?=some y∧Q y (upd H l (.lst xs.dropLast))
theorem TY:MtM X "list.pop" aaU:=by
 intro pins s σ H x vs v us Q I rx rv h
 obtain⟨l,xs,y,rfl,rfl,hH,hy,q⟩:=h
 cases rx
 have hus:=rv.zero
 subst hus
 obtain⟨z,its,n,r,hl,e⟩:=I.Qq hH
 obtain⟨u,hu,ru⟩:=r.get hy
 have hy':its.toArray[its.toArray.size - 1]?=some u:=by
  show its.toArray[its.length - 1]?=some u
  rw[← zt,← hl]
  exact hu
 refine tO F.slot_list_pop ⟨_,e,rfl⟩ F.entry_list_pop (F.args_list_pop_1 _) (MeetsSeq.list_pop_last l its.toArray n u hy' (by rw[a8];omega)) ⟨e,?_⟩
 refine⟨y,_,I.XI (its':=its.dropLast) hH e ?_ r.dropLast ?_,ru,q⟩
 ·show its.toArray.eraseIdxIfInBounds (its.toArray.size - 1)=its.dropLast.toArray
  rw[a8,List.eraseIdxIfInBounds_toArray,QG]
 ·rw[List.length_dropLast]
  omega
def Y6:R2:=fun x y H Q=>∃ l b xs zs,x=.ref l∧y=.ref b∧H l=some (.lst xs)∧H b=some (.lst zs)∧xs.length+zs.length≤sizeLine∧∀ p,H p=none→Q (.ref p) (upd H p (.lst (xs++zs)))
theorem HR:OpR X (binaryOp .Add) Y6:=by
 intro pins s σ H x y v u Q I rx ry h
 obtain⟨l,b,xs,zs,rfl,rfl,hH,hB,hz,q⟩:=h
 cases rx
 cases ry
 obtain⟨z,its,n,r,hl,e⟩:=I.Qq hH
 obtain⟨z2,MO,n2,r2,hl2,e2⟩:=I.Qq hB
 refine PySem.P.add_list e e2 ?_ (by rw[a8,a8];omega)
 have ea:its.toArray++MO.toArray=(its++MO).toArray:=by simp
 rw[ea]
 exact⟨.ref _,_,I.Zi (t':=s.toks) (r.append r2) (by rw[au];omega),rfl,q _ I.fresh⟩
def Y5:R2:=fun x y H Q=>∃ l k xs,x=.ref l∧y=.int k∧H l=some (.lst xs)∧-(2 ^ 63)≤k∧k < 2 ^ 63∧xs.length * k.toNat≤sizeLine∧
 ∀ p,H p=none→Q (.ref p) (upd H p (.lst (aj k.toNat xs).flatten))
theorem len_rep {α:Type} (xs:List α) (k:Nat):(aj k xs).flatten.length=k * xs.length:=by
 induction k with
 | zero=>simp
 | succ k ih=>rw[cv,eC,au,ih,Nat.succ_mul,Nat.add_comm]
theorem HP:OpR X (binaryOp .Mult) Y5:=by
 intro pins s σ H x y v u Q I rx ry h
 obtain⟨l,k,xs,rfl,rfl,hH,h1,h2,hz,q⟩:=h
 cases rx
 obtain⟨t,rfl⟩:=ry
 obtain⟨z,its,n,r,hl,e⟩:=I.Qq hH
 have hlen:its.toArray.size * k.toNat≤sizeLine:=by rw[a8,← hl];exact hz
 have acP:¬ its.toArray.size * k.toNat > (2 ^ 63 - 1) / 8:=by
  have:(sizeLine:Nat)≤(2 ^ 63 - 1) / 8:=by decide
  omega
 have acI:¬ (!Builtin.List.listFitsIndex k)=true:=by
  rw[fitsIndex_both h1 h2]
  exact aZ
 have Ux:¬ Builtin.List.listTooLong (its.toArray.size * k.toNat)=true:=by
  rw[Og hlen]
  exact aZ
 have Gg:List.foldl (fun x1 x2=>x1++x2) #[] (aj (if its.toArray.isEmpty=true then 0 else k.toNat) its.toArray)=(aj k.toNat its).flatten.toArray:=by
  have f0:∀ m:Nat,List.foldl (fun x1 x2=>x1++x2) #[] (aj m its.toArray)=(aj m its).flatten.toArray:=fun m=>by
   have:=foldl_rep its m []
   rw[dm] at this
   exact this
  rw[f0]
  cases its with
  | nil=>simp
  | cons a r'=>rw[if_neg (by simp)]
 refine wpAny_binaryOp_repeat_ref (T:="list") (U:="int") (by decide) ⟨_,e,rfl⟩ (fun s'=>typeIs_int s' k t) noFill_list_mul F.fills_int_mul F.slot_int_rmul repeat_list F.slot_int_index.lookup
  (tO F.slot_int_rmul (typeIs_int s k t) F.entry_int_rmul (F.args_int_rmul_2 _ _) (int___rmul___int_list k t l its.toArray n)
    ⟨e,rfl,⟨_,e,rfl⟩,tO F.slot_list_mul ⟨_,e,rfl⟩ F.entry_list_mul (F.args_list_mul_2 _ _) (AutoListH.list___mul___list_int_3 l its.toArray n k t acI acP Ux) ⟨e,?_⟩⟩)
 rw[Gg]
 exact⟨.ref _,_,I.Zi (t':=s.toks) (r.rep k.toNat) (by rw[len_rep,Nat.mul_comm];exact hz),rfl,q _ I.fresh⟩
end
section
variable {prog:Program}{w:World}{A:Around}{E:Value→Shared→Prop}{s:Shared}
set_option maxRecDepth 100000 in
end
section
variable {X:Cx}
end
end L2
namespace L2
open PySem PySem.Spec PyProof.Rows
section
variable {prog:Program}{w:World}{A:Around}{E:Value→Shared→Prop}{s:Shared}{l:Addr}{its:List Value}{ns:List Int}{Q:Value→Shared→Prop}
end
section
variable {X:Cx}
end
section
variable {X:Cx}
def Xr (K:ai):V→List V→Hp→VK→Prop:=fun x xs H Q=>∃ (a:Addr) (ys:List V) (y:V) (j:Nat) (z:V),x=V.ref a∧xs=[y]∧SqL K H a ys∧vz y=true∧ys.all vz=true∧ys[j]?=some z∧eqV z y=true∧
 (∀ (m:Nat) (z':V),m < j→ys[m]?=some z'→eqV z' y=false)∧Q (.int (j:Nat)) H
theorem Rr {ys:List V} (f:ys.all vz=true) {j:Nat}{z:V} (h:ys[j]?=some z):vz z=true:=bQ.mp f z (a7 h)
theorem TZ:MtR X "list.index" (Xr X.K):=by
 intro pins s σ H x xs v us Q I rx rxs h
 obtain⟨a,ys,y,j,z,rfl,rfl,hs,fy,fys,hz,hzj,hno,q⟩:=h
 cases rx
 cases rxs with
 | cons ry rt=>
   rename_i uy ut
   cases rt
   obtain⟨its,rv,⟨⟨cls,dd,data,sl⟩,n,ho,hc,hdn,hd⟩,hlen⟩:=I.list hs
   simp only at hc hd
   subst hc hd
   obtain⟨u,hu,ru⟩:=rv.get hz
   obtain⟨hjl,hje⟩:=aP.mp hu
   have hvl:=rv.length
   have hj:j < its.toArray.size:=by simpa using hjl
   have hsl:=sizeLine_eq
   refine tO PySem.F.slot_list_index ⟨_,ho,rfl⟩ PySem.F.entry_list_index (PySem.F.args_list_index_2 _ _)
    (SeqAt.list_indexAt a its.toArray n dd sl uy (eqU y) j hj (by omega) ?_ ?_) ⟨ho,fun u' hu'=>C3 ry fy rv fys u' (by simpa using hu'),?_⟩
   ·have e1:its.toArray[j]=u:=by simpa using hje
    rw[e1,MZ ru (Rr fys hz)]
    exact hzj
   ·intro m hm hmj
    have hml:m < its.length:=by simpa using hm
    have hmy:m < ys.length:=by omega
    have hy':ys[m]?=some ys[m]:=aK hmy
    obtain⟨u2,hu2,ru2⟩:=rv.get hy'
    obtain⟨_,hme⟩:=aP.mp hu2
    have e1:its.toArray[m]=u2:=by simpa using hme
    rw[e1,MZ ru2 (Rr fys hy')]
    exact hno m _ hmj hy'
   ·exact⟨.int (j:Nat),H,I.tok _,⟨_,rfl⟩,q⟩
end
section
variable {X:Cx}
end
section
variable {X:Cx}
end
section
variable {X:Cx}{pins:List (Addr×Obj)}{σ:St}{H:Hp}{s:Shared}
end
section
variable {X:Cx}
end
end L2
namespace L2
open PySem PySem.Spec PyProof.Rows
abbrev Vr (h:Heap) (c:Addr) (v:Option Value):Prop:=h.IsCell c v
def aaR (scope sc:Scope):Scope:=
 { scope with names:=scope.names.map fun(n,k)=>if (k == .free && sc.kind == .function && sc.names.lookup n == some .cell) then (n,.cell) else (n,k) }
def e7 (cells:List (Str×Addr)):List (Str×NameKind)→List (Str×Addr)→List (Str×Addr)
 | [],acc=>acc
 | (n,k)::r,acc=>if k == .free then e7 cells r ((n,(cells.lookup n).getD 0)::acc) else e7 cells r acc
theorem Dm (env:Env) (f:Str×NameKind→List (Str×Addr)→Sem (ForInStep (List (Str×Addr))))
 (hf:∀ n k c,f (n,k) c=if k == .free then (do let a ← cellOf env n;pure (.yield ((n,a)::c))) else pure (.yield c)):
 ∀ (names:List (Str×NameKind)) (acc:List (Str×Addr)),(∀ y∈names,y.2=.free→∃ c,env.cells.lookup y.1=some c)→forIn names acc f=pure (e7 env.cells names acc)
 | [],acc,_=>by rw[List.forIn_nil];rfl
 | (n,k)::r,acc,h=>by
   rw[List.forIn_cons,hf]
   have ih:=fun acc=>Dm env f hf r acc fun y hy=>h y (aG _ hy)
   unfold e7
   by_cases hk:(k == NameKind.free)=true
   ·rw[if_pos hk,if_pos hk]
    obtain⟨c,hc⟩:=h (n,k) aI (by simpa using hk)
    have e:cellOf env n=pure c:=by unfold cellOf;rw[hc]
    rw[e]
    have e2:(env.cells.lookup n).getD 0=c:=by rw[hc];rfl
    rw[e2]
    exact ih _
   ·rw[if_neg hk,if_neg hk]
    exact ih _
theorem QK {scope:Scope}{env:Env} (h:∀ y∈scope.names,y.2=.free→∃ c,env.cells.lookup y.1=some c):closureFor scope env=pure (e7 env.cells scope.names []):=by
 simp only[closureFor]
 rw[Dm env _ (fun n k c=>rfl) scope.names [] h]
 rfl
theorem mem_lookup {α:Type}:∀ {l:List (Str×α)}{n:Str}{c:α},(n,c)∈l→∃ c',l.lookup n=some c'
 | (k,v)::r,n,c,h=>by
   rw[jN]
   cases hb:n == k with
   | true=>exact⟨_,rfl⟩
   | false=>
     rcases aC.mp h with e | h
     ·cases e;simp at hb
     ·exact mem_lookup h
theorem ue {cells:List (Str×Addr)}:∀ {names:List (Str×NameKind)}{acc:List (Str×Addr)}{n:Str}{c:Addr},(n,c)∈e7 cells names acc→(n,c)∈acc∨((n,.free)∈names∧c=(cells.lookup n).getD 0)
 | [],_,_,_,h=>.inl h
 | (m,k)::r,acc,n,c,h=>by
   unfold e7 at h
   split at h
   ·rename_i hk
    have hk:k=.free:=by simpa using hk
    rcases ue h with h | ⟨h1,h2⟩
    ·rcases aC.mp h with e | h
     ·cases e;exact .inr ⟨hk▸aI,rfl⟩
     ·exact .inl h
    ·exact .inr ⟨aG _ h1,h2⟩
   ·rcases ue h with h | ⟨h1,h2⟩
    ·exact .inl h
    ·exact .inr ⟨aG _ h1,h2⟩
theorem yY {cells:List (Str×Addr)}:∀ {names:List (Str×NameKind)}{acc:List (Str×Addr)}{p:Str×Addr},p∈acc→p∈e7 cells names acc
 | [],_,_,h=>h
 | (m,k)::r,acc,p,h=>by
   unfold e7
   split
   ·exact yY (aG _ h)
   ·exact yY h
theorem yX {cells:List (Str×Addr)}:∀ {names:List (Str×NameKind)}{acc:List (Str×Addr)}{n:Str},(n,.free)∈names→(n,(cells.lookup n).getD 0)∈e7 cells names acc
 | (m,k)::r,acc,n,h=>by
   unfold e7
   rcases aC.mp h with e | h
   ·cases e
    exact yY aI
   ·split
    ·exact yX h
    ·exact yX h
theorem vG:∀ {names:List (Str×NameKind)}{h:Heap}{acc:List (Str×Addr)}{x:Str}{c:Addr},(x,c)∈cellsFrom h.objs.size names acc→
 (x,c)∈acc∨((x,.cell)∈names∧h.objs.size≤c∧Vr (pushCells h names) c none)
 | [],_,_,_,_,h=>.inl h
 | (n,k)::r,h,acc,x,c,hm=>by
   unfold cellsFrom at hm
   unfold pushCells
   split at hm
   ·rename_i hk
    rw[if_pos hk]
    have hk:k=.cell:=by simpa using hk
    rw[← Heap.size_push h { cls:=.type "cell",data:=.cell none }] at hm
    rcases vG hm with hm | ⟨h1,h2,h3⟩
    ·rcases aC.mp hm with e | hm
     ·cases e
      exact .inr ⟨hk▸aI,aB _,_,DS r _ _ _ (Heap.get?_push_size _ rfl),rfl⟩
     ·exact .inl hm
    ·rw[Heap.size_push] at h2
     exact .inr ⟨aG _ h1,xg h2,h3⟩
   ·rename_i hk
    rw[if_neg hk]
    rcases vG hm with hm | ⟨h1,h2,h3⟩
    ·exact .inl hm
    ·exact .inr ⟨aG _ h1,h2,h3⟩
theorem zk:∀ {names:List (Str×NameKind)}{n:Nat}{acc:List (Str×Addr)}{p:Str×Addr},p∈acc→p∈cellsFrom n names acc
 | [],_,_,_,h=>h
 | (m,k)::r,n,acc,p,h=>by
   unfold cellsFrom
   split
   ·exact zk (aG _ h)
   ·exact zk h
theorem EZ:∀ {names:List (Str×NameKind)}{n:Nat}{acc:List (Str×Addr)}{x:Str},(x,.cell)∈names→∃ c,(x,c)∈cellsFrom n names acc
 | (m,k)::r,n,acc,x,h=>by
   unfold cellsFrom
   rcases aC.mp h with e | h
   ·cases e
    exact⟨n,zk aI⟩
   ·split
    ·exact EZ h
    ·exact EZ h
theorem EY:∀ {names:List (Str×NameKind)}{h:Heap}{acc:List (Str×Addr)}{x y:Str}{c:Addr},(∀ p∈acc,p.2 < h.objs.size)→(∀ x y c,(x,c)∈acc→(y,c)∈acc→x=y)→
 (x,c)∈cellsFrom h.objs.size names acc→(y,c)∈cellsFrom h.objs.size names acc→x=y
 | [],_,_,_,_,_,_,hi,h1,h2=>hi _ _ _ h1 h2
 | (n,k)::r,h,acc,x,y,c,hl,hi,h1,h2=>by
   unfold cellsFrom at h1 h2
   split at h1
   ·rename_i hk
    rw[if_pos hk] at h2
    rw[← Heap.size_push h { cls:=.type "cell",data:=.cell none }] at h1 h2
    refine EY (h:=h.push _) (fun p hp=>?_) (fun x y c a b=>?_) h1 h2
    ·rw[Heap.size_push]
     rcases aC.mp hp with rfl | hp
     ·exact Nat.lt_succ_self _
     ·exact Nat.lt_succ_of_lt (hl p hp)
    ·rcases aC.mp a with e | a<;>rcases aC.mp b with e' | b
     ·cases e;cases e';rfl
     ·cases e;exact absurd (hl _ b) (hG _)
     ·cases e';exact absurd (hl _ a) (hG _)
     ·exact hi _ _ _ a b
   ·rename_i hk
    rw[if_neg hk] at h2
    exact EY hl hi h1 h2
theorem Ol {M:Model}{A:Around}{E:Value→Shared→Prop}{s:Shared}{scope:Scope}{globals:Addr}{closure:List (Str×Addr)}{qual:Str}{func:Option Addr}{code:Value}{around:Env}{builtins:Addr}{Q:Env→Shared→Prop}
 (h:Q (newEnv scope s.heap.objs.size globals (cellsFrom (s.heap.objs.size+1) scope.names closure) qual func code (some around) builtins)
   { s with heap:=pushCells (s.heap.push { cls:=.type "dict",data:=.dict #[] }) scope.names }):
 wpAny M A (newFunctionEnv scope globals closure [] qual func code (some around) builtins) Q E s:=by
 simp only[newFunctionEnv,Option.isSome_some,if_true]
 refine ao (wpAny_alloc ?_)
 refine ao (wpAny_layCells _ (fun n k c=>rfl) scope.names closure _ _ ?_)
 rw[show({ s with heap:=s.heap.push { cls:=.type "dict",data:=.dict #[] } }:Shared).heap.objs.size=s.heap.objs.size+1 from Heap.size_push ..]
 rw[List.forIn_nil]
 exact ao (aS (aS h))
theorem yQ {sc:Scope}:∀ {names:List (Str×NameKind)}{x:Str}{k:NameKind},
 (names.map fun(n,k)=>if (k == NameKind.free && sc.kind == .function && sc.names.lookup n == some .cell) then (n,NameKind.cell) else (n,k)).lookup x=some k→
 ∃ k',names.lookup x=some k'∧(k=k'∨(k'=.free∧k=.cell))
 | [],_,_,h=>by simp at h
 | (n,k₀)::r,x,k,h=>by
   have ih:=@yQ sc r x k
   have h':oU x ((if (k₀ == NameKind.free && sc.kind == .function && sc.names.lookup n == some .cell)=true then (n,NameKind.cell) else (n,k₀))::(r.map _))=some k:=h
   cases hx:x == n with
   | true=>
     simp only[jN,hx]
     by_cases hc:(k₀ == NameKind.free && sc.kind == .function && sc.names.lookup n == some .cell)=true
     ·rw[if_pos hc] at h'
      simp only[jN,hx] at h'
      cases h'
      simp only[a5,beq_iff_eq] at hc
      exact⟨k₀,rfl,.inr ⟨hc.1.1,rfl⟩⟩
     ·rw[if_neg hc] at h'
      simp only[jN,hx] at h'
      cases h'
      exact⟨_,rfl,.inl rfl⟩
   | false=>
     simp only[jN,hx]
     by_cases hc:(k₀ == NameKind.free && sc.kind == .function && sc.names.lookup n == some .cell)=true
     ·rw[if_pos hc] at h'
      simp only[jN,hx] at h'
      exact ih h'
     ·rw[if_neg hc] at h'
      simp only[jN,hx] at h'
      exact ih h'
structure lp (N:List Str) (sc scope:Scope) (own:List (Str×Nat)):Prop where
 kind:scope.kind=.function
 uniq:∀ y∈scope.names,scope.names.lookup y.1=some y.2
 ix:∀ p∈own,N[p.2]?=some p.1
 free:∀ y∈scope.names,y.2=.free→sc.names.lookup y.1=some .cell∨sc.names.lookup y.1=some .free
 own:∀ y∈scope.names,y.2=.local∨y.2=.cell→y.1∈own.map (·.1)∨y.1∉N
def wipe (σ:St):List Nat→St
 | []=>σ
 | v::vs=>(wipe σ vs).set v none
theorem yg (σ:St):∀ vs:List Nat,(wipe σ vs).length=σ.length
 | []=>rfl
 | v::vs=>by unfold wipe;rw[kR,yg σ vs]
theorem DY {σ:St}{i:Nat}{x:V}:∀ {vs:List Nat},(wipe σ vs)[i]?=some (some x)→σ[i]?=some (some x)∧i∉vs
 | [],h=>⟨h,by simp⟩
 | v::vs,h=>by
   unfold wipe at h
   by_cases hi:v=i
   ·subst hi
    by_cases hv:v < (wipe σ vs).length
    ·rw[b5 hv] at h;cases h
    ·rw[qN (by simpa using hv)] at h;cases h
   ·rw[dj hi] at h
    obtain⟨h1,h2⟩:=DY h
    exact⟨h1,by simp only[aC,not_or];exact⟨fun e=>hi e.symm,h2⟩⟩
abbrev Cx.blk (X:Cx) (s:Shared) (H:Hp) (scope:Scope) (nR:Env) (fp:List Addr):Cx:={ X with s_0:=s,H_0:=H,env:=nR,outer:=X.stack,ex:=fp,fn:=fun x=>scope.names.lookup x == some .cell,pn:=[],xe:=fun _ _=>False }
section
variable {X:Cx}{pins:List (Addr×Obj)}{σ:St}{H:Hp}{s:Shared}
theorem Pe {scope:Scope}{own:List (Str×Nat)}{fp:List Addr} (I:Inv X pins σ H s) (ok:lp X.N X.env.scope scope own) (hN:X.N.Nodup) (hfp:∀ b∈fp,KA X pins H b∧b < s.heap.objs.size):
 Inv (X.blk s H scope (compEnvC scope (cellsFrom (s.heap.objs.size+1) scope.names (e7 X.env.cells scope.names [])) s.heap.objs.size X.env) fp) [] (wipe σ (own.map (·.2))) H { s with heap:=pushCells (s.heap.push { cls:=.type "dict",data:=.dict #[] }) scope.names }:=by
 have Lo:∀ y∈scope.names,y.2=.free→∃ c,X.env.cells.lookup y.1=some c:=fun y hy e=>by
  rcases ok.free y hy e with k | k
  ·exact I.ok.has _ (.inl k)
  ·exact I.ok.has _ (.inr k)
 generalize OQ:compEnvC scope (cellsFrom (s.heap.objs.size+1) scope.names (e7 X.env.cells scope.names [])) s.heap.objs.size X.env=nR
 have kp:∀ b o,s.heap.get? b=some o→(pushCells (s.heap.push { cls:=.type "dict",data:=.dict #[] }) scope.names).get? b=some o:=fun b o e=>DS _ _ _ _ (Heap.get?_push_of_some _ e)
 have hL:nR.locals=s.heap.objs.size:=by rw[← OQ];rfl
 have hcl:nR.cells=cellsFrom (s.heap.objs.size+1) scope.names (e7 X.env.cells scope.names []):=by rw[← OQ];rfl
 have hsc:nR.scope=aaR scope X.env.scope:=by rw[← OQ];rfl
 rw[← Heap.size_push s.heap { cls:=.type "dict",data:=.dict #[] }] at hcl
 have cm:∀ {y c},(y,c)∈e7 X.env.cells scope.names []→X.env.cells.lookup y=some c∧c < s.heap.objs.size:=fun {y c} hm=>by
  rcases ue hm with hm | ⟨h1,rfl⟩
  ·cases hm
  ·obtain⟨c,hc⟩:=Lo _ h1 rfl
   rw[hc]
   obtain⟨w,z⟩:=I.cell _ _ hc
   exact⟨rfl,z.lt⟩
 have mem:∀ {y c},nR.cells.lookup y=some c→(X.env.cells.lookup y=some c∧c < s.heap.objs.size)∨(s.heap.objs.size+1≤c∧Vr (pushCells (s.heap.push { cls:=.type "dict",data:=.dict #[] }) scope.names) c none):=fun {y c} e=>by
  rw[hcl] at e
  rcases vG (b6 e) with hm | ⟨_,h2,h3⟩
  ·exact .inl (cm hm)
  ·rw[Heap.size_push] at h2;exact .inr ⟨h2,h3⟩
 have look:∀ {y},scope.names.lookup y=some .free→∃ c,nR.cells.lookup y=some c∧X.env.cells.lookup y=some c:=fun {y} hl=>by
  have hy:(y,NameKind.free)∈scope.names:=b6 hl
  obtain⟨c',e'⟩:=mem_lookup (zk (names:=scope.names) (n:=(s.heap.push { cls:=.type "dict",data:=.dict #[] }).objs.size) (yX (cells:=X.env.cells) (acc:=[]) hy))
  rw[← hcl] at e'
  refine⟨c',e',?_⟩
  rw[hcl] at e'
  rcases vG (b6 e') with hm | ⟨h1,_,_⟩
  ·exact(cm hm).1
  ·have:=ok.uniq _ h1
   rw[hl] at this;cases this
 have okB:(X.blk s H scope nR fp).Ok:=by
  refine⟨I.ok.mod,by show nR.scope.kind=_;rw[hsc];exact ok.kind,by show nR.globals=_;rw[← OQ];exact I.ok.glob,by show nR.builtins=_;rw[← OQ];exact I.ok.blt,by show s.heap.objs.size≤nR.locals;rw[hL];exact aB _,
   fun y z c e1 e2=>?_,fun y hy=>?_,fun y c z e=>?_,I.ok.hd,I.ok.frames,.inl rfl,fun b hb=>⟨?_,fun y c e z=>?_⟩,I.bs,bP I.ok.bsz I.sz,fun b o e hb=>?_,fun b hb z=>?_,I.stack,I.LZ⟩
  ·have e1:nR.cells.lookup y=some c:=e1
   have e2:nR.cells.lookup z=some c:=e2
   rw[hcl] at e1 e2
   refine EY (fun p hp=>?_) (fun y z c a b=>I.ok.inj y z c (cm a).1 (cm b).1) (b6 e1) (b6 e2)
   rw[Heap.size_push]
   exact Nat.lt_succ_of_lt (cm (y:=p.1) (c:=p.2) hp).2
  ·show ∃ c,nR.cells.lookup y=some c
   have key:∀ k,nR.kindOf y=some k→(k=.cell∨k=.free)→∃ c,nR.cells.lookup y=some c:=fun k hk hk'=>by
    unfold Env.kindOf at hk
    rw[hsc] at hk
    obtain⟨k',e,r⟩:=yQ hk
    have:k'=.cell∨k'=.free:=by
     rcases r with rfl | ⟨rfl,_⟩
     ·exact hk'
     ·exact .inr rfl
    rcases this with rfl | rfl
    ·obtain⟨c,hm⟩:=EZ (n:=(s.heap.push { cls:=.type "dict",data:=.dict #[] }).objs.size) (acc:=e7 X.env.cells scope.names []) (b6 e)
     obtain⟨c',e'⟩:=mem_lookup hm
     exact⟨c',by rw[hcl];exact e'⟩
    ·obtain⟨c,h1,_⟩:=look e
     exact⟨c,h1⟩
   rcases hy with hy | hy
   ·exact key _ hy (.inl rfl)
   ·exact key _ hy (.inr rfl)
  ·have z:(scope.names.lookup y == some NameKind.cell)=true:=z
   have z:scope.names.lookup y=some .cell:=by simpa using z
   have e:nR.cells.lookup y=some c:=e
   rw[hcl] at e
   rcases vG (b6 e) with hm | ⟨_,h2,_⟩
   ·rcases ue hm with hm | ⟨h1,_⟩
    ·cases hm
    ·have q:=ok.uniq _ h1
     rw[z] at q;cases q
   ·rw[Heap.size_push] at h2
    exact xg h2
  ·show b≠nR.locals
   rw[hL];exact bV (hfp b hb).2
  ·have e:nR.cells.lookup y=some c:=e
   rcases mem e with ⟨h1,_⟩ | ⟨h1,_⟩
   ·exact(hfp b hb).1.2.2.2.2.1 y c h1 z
   ·have h2:s.heap.objs.size+1≤b:=by rw[← z];exact h1
    exact absurd (b7 (hfp b hb).2 (xg h2)) (hG _)
  ·rcases (hfp b hb).1.2.2.2.1 with z | z
   ·exact I.ok.Oh b o e z
   ·exact absurd (b7 (Heap.lt_size e) (bP I.ok.bsz z)) (hG _)
  ·rcases aC.mp (I.LY b z) with z | z
   ·exact(hfp b hb).1.2.1 z
   ·exact(hfp b hb).1.2.2.1 z
 refine⟨okB,rfl,I.bare,Un.kept kp,⟨fun _=>none,?_,fun i y av e1 e2 e3=>?_⟩,fun y c e=>?_,?_,fun y c e=>?_,fun p hp=>?_,I.hok.kept kp,by rw[yg];exact I.len⟩
 ·show Heap.Ns _ nR.locals _
  rw[hL]
  exact Heap.Ns.keeps (Heap.Ns.new ..) fun b o e=>DS _ _ _ _ e
 ·obtain⟨e2,hne⟩:=DY e2
  have hfr:scope.names.lookup y=some .free∧(nR.kindOf y=some .cell∨nR.kindOf y=some .free):=by
   have key:∀ k,nR.scope.names.lookup y=some k→k=.local∨k=.cell∨k=.free→scope.names.lookup y=some .free∧(nR.kindOf y=some .cell∨nR.kindOf y=some .free):=fun k hk hk'=>by
    have hk0:=hk
    rw[hsc] at hk
    obtain⟨k',e,r⟩:=yQ hk
    have no:¬ (k'=.local∨k'=.cell):=fun hh=>by
     rcases ok.own _ (b6 e) hh with e' | e'
     ·obtain⟨p,hp,hpy⟩:=ay.mp e'
      have e3:=ok.ix p hp
      have:p.1=y:=hpy
      rw[this] at e3
      exact hne (ay.mpr ⟨p,hp,Ia hN e3 e1⟩)
     ·exact e' (a7 e1)
    rcases r with rfl | ⟨rfl,rfl⟩
    ·rcases hk' with rfl | rfl | rfl
     ·exact absurd (.inl rfl) no
     ·exact absurd (.inr rfl) no
     ·exact⟨e,.inr hk0⟩
    ·exact⟨e,.inl hk0⟩
   have e3:Vis nR.scope y:=e3
   rcases e3 with e3 | e3 | e3
   ·exact key _ e3 (.inl rfl)
   ·exact key _ e3 (.inr (.inl rfl))
   ·exact key _ e3 (.inr (.inr rfl))
  obtain⟨m,hn,hl⟩:=I.loc
  have acj:Vis X.env.scope y:=(ok.free _ (b6 hfr.1) rfl).elim (fun k=>.inr (.inl k)) (fun k=>.inr (.inr k))
  obtain⟨w,r,q⟩:=hl i y av e1 e2 acj
  refine⟨w,r,.inr ⟨hfr.2,?_⟩⟩
  obtain⟨c,h1,h2⟩:=look hfr.1
  rcases q with ⟨k,_⟩ | ⟨_,c',e',z⟩
  ·have k:X.env.scope.names.lookup y=some .local:=k
   rcases ok.free _ (b6 hfr.1) rfl with k' | k'<;>rw[show X.env.scope.names.lookup y=_ from k'] at k<;>cases k
  ·rw[h2] at e';cases e'
   exact⟨c,h1,z.keeps kp⟩
 ·have e:nR.cells.lookup y=some c:=e
  rcases mem e with ⟨h1,_⟩ | ⟨_,z⟩
  ·obtain⟨w,z⟩:=I.cell y c h1
   exact⟨w,z.keeps kp⟩
  ·exact⟨_,z⟩
 ·show H nR.locals=none
  rw[hL];exact I.hok.fresh (aB _)
 ·have e:nR.cells.lookup y=some c:=e
  rcases mem e with ⟨h1,_⟩ | ⟨h1,_⟩
  ·exact I.rG y c h1
  ·exact I.hok.fresh (xg h1)
 ·exact absurd (show p∈([]:List (Addr×Obj))++[] from hp) (by simp)
theorem Yx {E:Value→Shared→Prop}{D:Addr}{xs:List V}{y:V}{v:Value}{Q:Value→Shared→Prop} (I:Inv X pins σ H s) (hD:H D=some (.lst xs)) (hz:xs.length < sizeLine) (r:RelV y v)
 (h:∀ s',Inv X pins σ (upd H D (.lst (xs++[y]))) s'→Q .none s'):wpAny (model X.prog X.w) X.A (call (.builtin "list.append") [.ref D,v]) Q E s:=by
 obtain⟨hz',its,n,ri,e⟩:=I.hok D _ hD
 have hl:=ri.length
 refine append_at (hsz:=by rw[a8];omega) e fun h' sb ho'=>?_
 refine h { s with heap:=h' } (I.write (t':=s.toks) (by rw[hD];trivial) (.inl rfl) (fun b u hb q=>(sb.2 b hb).trans q) ⟨_,ho'⟩ ⟨by rw[au];exact hz,its++[v],n+1,ri.append (.cons r .nil),?_⟩)
 rw[ho']
 simp
def PTs (X:Cx) (ifs:List Expr) (t:TT):Prop:=
 ∀ (pins:List (Addr×Obj)) (s:Shared) (σ:St) (H:Hp) (Q:Bool→Hp→Prop),Inv X pins σ H s→t σ H Q→
   wpAny (model X.prog X.w) X.A (forIn ifs true fun c r=>if r=true then do let ok ← isTrue c X.env (eval c X.env);pure (xh ok) else pure (xh r)) (TP X pins σ Q) X.xe s
def Tb:TT:=fun _ H Q=>Q true H
theorem iA:PTs X [] Tb:=fun _ _ _ H _ I h=>wpAny_tests_nil ⟨H,I,h⟩
theorem Q8 {c:Expr}{t:TT} (h:PT X c t):PTs X [c] t:=fun pins s σ H Q I hw=>wpAny_tests_one (h pins s σ H Q I hw)
end
theorem RX {α:Type}{t:Sem α}{Q Q':α→Shared→Prop}{M:Model}{A:Around}{E:Value→Shared→Prop}{s:Shared} (h:wpAny M A t Q (fun _ _=>False) s) (hQ:∀ a s,Q a s→Q' a s):wpAny M A t Q' E s:=g8 h hQ fun _ _ z=>dF z
theorem M7 {prog:Program}{w:World}{A:Around}{R:Result→Shared→Prop}{s:Shared}{elt target iter:Expr}{ifs:List Expr}{scope:Scope}{pos:Pos}{it acc:Value}{env:Env} (I:Nat→Shared→Prop)
 (turn:∀ n s,I n s→wpAny (model prog w) A (pyNext it) (fun r s₁=>match r with
   | none=>R (.ok .next) s₁
   | some v=>wpAny (model prog w) A (letOwnedTupleGo target it v) (fun _ s₁'=>wpAny (model prog w) A (assign target env v) (fun _ s₂=>
    wpAny (model prog w) A (forIn ifs true fun c r=>if r=true then do let ok ← isTrue c env (eval c env);pure (xh ok) else pure (xh r)) (fun ok s₃=>
     if ok=true then wpAny (model prog w) A (eval elt env) (fun x s₄=>
      wpAny (model prog w) A (call (.builtin "list.append") [acc,x]) (fun _ s₅=>∃ m,m < n∧I m s₅) (notedBy (model prog w) A env fun e s'=>R (.error e) s') s₄) (notedBy (model prog w) A env fun e s'=>R (.error e) s') s₃
     else ∃ m,m < n∧I m s₃) (notedBy (model prog w) A env fun e s'=>R (.error e) s') s₂) (notedBy (model prog w) A env fun e s'=>R (.error e) s') s₁') (notedBy (model prog w) A env fun e s'=>R (.error e) s') s₁) (notedBy (model prog w) A env fun e s'=>R (.error e) s') s)
 (n:Nat) (h:I n s):
 codeAny (model prog w) A (.compLoop (.ListComp elt [⟨target,iter,ifs,0⟩] scope pos) 0 it acc env) R s:=by
 refine codeAny_loop rfl I (fun n s hI=>?_) n h
 show wpAny _ A ((compTurn (.ListComp elt [⟨target,iter,ifs,0⟩] scope pos) 0 it acc env).onRaise (fun x=>do noteFrame x env;theTreesLotGoes x)) _ _ s
 refine wpAny_noted ?_
 rw[compTurn_list]
 refine ao (wpAny_standAt (ao (g8 (turn n s hI) (fun r s₁ h₁=>?_) fun _ _ h'=>h')))
 cases r with
 | none=>exact aS h₁
 | some v=>
   refine ao (g8 h₁ (fun _ s₁' h₁'=>?_) fun _ _ h'=>h')
   refine ao (g8 h₁' (fun _ s₂ h₂=>ao (g8 h₂ (fun ok s₃ h₃=>?_) fun _ _ h'=>h')) fun _ _ h'=>h')
   cases ok with
   | false=>exact aS ⟨rfl,h₃⟩
   | true=>
     exact ao (ao (g8 h₃ (fun x s₄ h₄=>ao (g8 h₄ (fun _ s₅ h₅=>aS (aS ⟨rfl,h₅⟩)) fun _ _ h'=>h')) fun _ _ h'=>h'))
section
variable {X:Cx}
def tLc (wi:TI) (g:TG) (tt:TT) (te:TE) (vs:List Nat):TE:=fun σ H Q=>wi σ H fun J H1=>∀ D,H1 D=none→∃ W:Nat→Nat→Hp→Prop,(∃ m,W 0 m (upd H1 D (.lst [])))∧∀ i m H,W i m H→
 (J.stop i H∧Q (.ref D) H)∨(J.go i H∧∃ Nx:Hp→Prop,(∀ H',Nx H'→∃ m',m' < m∧W (i+1) m' H')∧∀ x H',J.yld i H x H'→g x (wipe σ vs) H' fun σ2 H2=>wipe σ2 vs=wipe σ vs∧tt σ2 H2 fun b H3=>
   if b=true then te σ2 H3 fun y H4=>∃ acc,H4 D=some (.lst acc)∧acc.length < sizeLine∧Nx (upd H4 D (.lst (acc++[y]))) else Nx H3)
theorem Ri {pins:List (Addr×Obj)}{s:Shared}{σ:St}{H:Hp}{Q:VK}{elt tg iter:Expr}{ifs:List Expr}{scope:Scope}{own:List (Str×Nat)}{pos pos':Pos}{wi:TI}{g:TG}{tt:TT}{te:TE}{use:Option (Value→Sem Unit)}{Qf:Value→Shared→Prop}
 (hc:X.calm=true) (hN:X.N.Nodup) (I:Inv X pins σ H s) (hi:PI X tg iter wi) (ok:lp X.N X.env.scope scope own)
 (hg:∀ (s:Shared) (H:Hp) (C:Addr) (cl:List (Str×Addr)) (fp:List Addr),PG (X.blk s H scope (compEnvC scope cl C X.env) fp) tg g) (ht:∀ (s:Shared) (H:Hp) (C:Addr) (cl:List (Str×Addr)) (fp:List Addr),PTs (X.blk s H scope (compEnvC scope cl C X.env) fp) ifs tt)
 (he:∀ (s:Shared) (H:Hp) (C:Addr) (cl:List (Str×Addr)) (fp:List Addr),PE (X.blk s H scope (compEnvC scope cl C X.env) fp) elt te) (hs:∀ x,foldedSetIterable iter X.env x=pure x)
 (h:tLc wi g tt te (own.map (·.2)) σ H Q)
 (hRR:∀ D C s' m H',Inv X pins σ H' s'→Q (.ref D) H'→s'.heap.Ns C m→KA X pins H' C→compPost (model X.prog X.w) X.A X.xe use Qf (.ref D) C (.ok .next) s'):
 wpAny (model X.prog X.w) X.A (comprehension (.ListComp elt [⟨tg,iter,ifs,0⟩] scope pos) scope X.env pos' (newList []) false (eval iter X.env) use) Qf X.xe s:=by
 have Lo:∀ y∈scope.names,y.2=.free→∃ c,X.env.cells.lookup y.1=some c:=fun y hy e=>by
  rcases ok.free y hy e with k | k
  ·exact I.ok.has _ (.inl k)
  ·exact I.ok.has _ (.inr k)
 refine wpAny_comprehension_free (use:=use) rfl hs (QK Lo) ok.kind (fun y hy e=>by rw[ok.uniq y hy,e])
  (thn (hi pins s σ H _ I h) fun xv s1 hx=>thn hx fun itv s2 h2=>?_)
 obtain⟨it,fp,tn,J,H2,e,I2,T,st2,f2,q⟩:=h2
 subst e
 refine gY (Ol ?_) (by show 0≤sizeLine;decide)
 generalize hD:s2.heap.objs.size=D
 have hDn:H2 D=none:=I2.hok.fresh (uo hD)
 obtain⟨W,⟨m0,w0⟩,turn⟩:=q D hDn
 generalize hs3:({ s2 with heap:=s2.heap.push { cls:=.type "list",data:=.seq ([]:List Value).toArray } }:Shared)=s3
 have I3:Inv X pins σ (upd H2 D (.lst [])) s3:=by
  rw[← hs3]
  refine I2.laid (t':=s2.toks) (fun b o e=>Heap.get?_push_of_some _ e) (uo hD) ⟨aT _,[],0,.nil,?_⟩
  rw[← hD]
  exact Heap.get?_push_size _ rfl
 have h3:s3.heap=s2.heap.push { cls:=.type "list",data:=.seq ([]:List Value).toArray }:=by rw[← hs3]
 have sz:∀ b∈fp,b < s2.heap.objs.size:=fun b hb=>by
  obtain⟨o,e,_⟩:=T.obj _ _ st2 b hb
  exact Heap.lt_size e
 have f3:∀ b∈fp,KA X pins (upd H2 D (.lst [])) b∧b < s3.heap.objs.size:=fun b hb=>by
  have hlt:=sz b hb
  refine⟨⟨?_,(f2 b hb).2⟩,by rw[h3,Heap.size_push];exact Nat.lt_succ_of_lt hlt⟩
  rw[aN (by rw[← hD];exact bV hlt)]
  exact(f2 b hb).1
 have st3:tn 0 s3.heap:=T.keep _ _ _ st2 fun b _ o e=>by rw[h3];exact Heap.get?_push_of_some _ e
 have I4:=Pe I3 ok hN f3
 have pg:=hg s3 (upd H2 D (.lst [])) s3.heap.objs.size (cellsFrom (s3.heap.objs.size+1) scope.names (e7 X.env.cells scope.names [])) fp
 have pt:=ht s3 (upd H2 D (.lst [])) s3.heap.objs.size (cellsFrom (s3.heap.objs.size+1) scope.names (e7 X.env.cells scope.names [])) fp
 have pe:=he s3 (upd H2 D (.lst [])) s3.heap.objs.size (cellsFrom (s3.heap.objs.size+1) scope.names (e7 X.env.cells scope.names [])) fp
 show codeAny _ _ (.compStart (.ListComp elt [⟨tg,iter,ifs,0⟩] scope pos) 0 (.ref it) (.ref D) (compEnvC scope (cellsFrom (s3.heap.objs.size+1) scope.names (e7 X.env.cells scope.names [])) s3.heap.objs.size X.env)) (compPost (model X.prog X.w) X.A X.xe use Qf (.ref D) s3.heap.objs.size) { s3 with heap:=pushCells (s3.heap.push { cls:=.type "dict",data:=.dict #[] }) scope.names }
 have nfp:∀ b∈fp,(upd H2 D (.lst [])) b=none:=fun b hb=>(f3 b hb).1.1
 generalize hce:compEnvC scope (cellsFrom (s3.heap.objs.size+1) scope.names (e7 X.env.cells scope.names [])) s3.heap.objs.size X.env=ce at I4 pg pt pe ⊢
 have cL:ce.locals=s3.heap.objs.size:=by subst hce;rfl
 generalize hH3:upd H2 D (.lst [])=H3 at I3 I4 pg pt pe w0 nfp f3
 generalize hs4:({ s3 with heap:=pushCells (s3.heap.push { cls:=.type "dict",data:=.dict #[] }) scope.names }:Shared)=s4 at I4 ⊢
 have st4:tn 0 s4.heap:=T.keep _ _ _ st3 fun b _ o e=>by rw[← hs4];exact DS _ _ _ _ (Heap.get?_push_of_some _ e)
 have P1:∀ {σ':St}{H':Hp}{s':Shared},Inv (X.blk s3 H3 scope ce fp) [] σ' H' s'→(∀ b∈fp,H' b=none)→∀ b∈fp,KA (X.blk s3 H3 scope ce fp) [] H' b:=fun {σ' H' s'} I' hn b hb=>
  ⟨hn b hb,(I'.ok.exf b hb).1,I'.ok.O3 b hb,.inl hb,fun x c e=>(I'.ok.exf b hb).2 x c e,fun p hp=>absurd (show p∈([]:List (Addr×Obj))++[] from hp) (by simp)⟩
 have loop:codeAny (model X.prog X.w) X.A (.compLoop (.ListComp elt [⟨tg,iter,ifs,0⟩] scope pos) 0 (.ref it) (.ref D) ce) (compPost (model X.prog X.w) X.A X.xe use Qf (.ref D) s3.heap.objs.size) s4:=by
  refine M7 (fun n s'=>∃ i H',Inv (X.blk s3 H3 scope ce fp) [] (wipe σ (own.map (·.2))) H' s'∧tn i s'.heap∧(∀ b∈fp,H' b=none)∧W i n H') ?_ m0 ⟨0,H3,I4,st4,nfp,w0⟩
  rintro n s5 ⟨i,H5,I5,st5,n5,w5⟩
  rcases turn i n H5 w5 with ⟨stop,qq⟩ | ⟨go,Nx,hNx,step⟩
  ·have td:=T.done (X.blk s3 H3 scope ce fp) rfl rfl rfl hc i [] s5 _ H5 (fun _ _=>False) I5 (P1 I5 n5) st5 stop
   refine RX td fun r s6 ⟨hr,I6⟩=>?_
   subst hr
   have I7:Inv X pins σ H5 s6:=I3.U5 (ch:=fp) I6.os I6.base I6.hok I6.bare fun b hb=>⟨(f3 b hb).1.2.2.2.1,(f3 b hb).1.2.1,(f3 b hb).1.2.2.2.2.1,(f3 b hb).1.2.2.2.2.2⟩
   have nC:H5 s3.heap.objs.size=none:=by
    have z:H5 ce.locals=none:=I6.free
    rw[cL] at z
    exact z
   obtain⟨m,hn,_⟩:=I6.loc
   have hn:s6.heap.Ns ce.locals m:=hn
   rw[cL] at hn
   exact hRR D s3.heap.objs.size s6 m H5 I7 qq hn (I3.UT (aB _) nC)
  ·have ti:=T.item (X.blk s3 H3 scope ce fp) rfl rfl rfl hc i [] s5 _ H5 (fun _ _=>False) I5 (P1 I5 n5) st5 go
   refine RX ti fun r s6 ⟨u,hr,h6⟩=>?_
   subst hr
   refine RX h6 fun _ s7 ⟨x,H7,I7,r7,y7,st7,n7⟩=>?_
   have I7':=I7.pinned (P1 I7 n7) (T.obj _ _ st7)
   refine RX (pg _ s7 _ H7 x u _ I7' r7 (step x H7 y7)) fun _ s8 ⟨σ8,H8,I8,hw8,q8⟩=>?_
   refine RX (pt _ s8 σ8 H8 _ I8 q8) fun b s9 ⟨H9,I9,q9⟩=>?_
   have fin:∀ {s':Shared}{H':Hp},Inv (X.blk s3 H3 scope ce fp) ([]++HG fp s7.heap) σ8 H' s'→Nx H'→∃ m,m < n∧∃ i H',Inv (X.blk s3 H3 scope ce fp) [] (wipe σ (own.map (·.2))) H' s'∧tn i s'.heap∧(∀ b∈fp,H' b=none)∧W i m H':=fun {s' H'} I' nx=>by
    obtain⟨m',hm,w'⟩:=hNx H' nx
    have Y7:∀ b∈fp,∀ o,s7.heap.get? b=some o→s'.heap.get? b=some o∧H' b=none:=fun b hb o e=>
     let z:=I'.pin (b,o) (aO _ (aO _ (BD hb e)))
     ⟨z.1,z.2.1⟩
    have hl:(wipe σ (own.map (·.2))).length=σ8.length:=by rw[← hw8,yg]
    refine⟨m',hm,i+1,H',(I'.B7 (pins:=[])).weak hl (fun j v e=>?_),T.keep _ _ _ st7 fun b hb o e=>(Y7 b hb o e).1,fun b hb=>?_,w'⟩
    ·rw[← hw8] at e
     exact(DY e).1
    ·obtain⟨o,e,_⟩:=T.obj _ _ st7 b hb
     exact(Y7 b hb o e).2
   cases b with
   | false=>
     simp only[ia,if_false] at q9 ⊢
     exact fin I9 q9
   | true=>
     simp only[if_true] at q9 ⊢
     refine RX (pe _ s9 σ8 H9 _ I9 q9) fun z s10 ⟨yv,H10,I10,r10,acc,acU,acb,nx⟩=>?_
     exact Yx (X:=X.blk s3 H3 scope ce fp) I10 acU acb r10 fun s11 I11=>fin I11 nx
 exact codeAny_compStart_list loop (T.self X.A 0 _ _ _ st4 loop)
theorem rE {elt tg iter:Expr}{ifs:List Expr}{scope:Scope}{own:List (Str×Nat)}{pos:Pos}{wi:TI}{g:TG}{tt:TT}{te:TE} (hc:X.calm=true) (hN:X.N.Nodup) (hi:PI X tg iter wi) (ok:lp X.N X.env.scope scope own)
 (hg:∀ (s:Shared) (H:Hp) (C:Addr) (cl:List (Str×Addr)) (fp:List Addr),PG (X.blk s H scope (compEnvC scope cl C X.env) fp) tg g) (ht:∀ (s:Shared) (H:Hp) (C:Addr) (cl:List (Str×Addr)) (fp:List Addr),PTs (X.blk s H scope (compEnvC scope cl C X.env) fp) ifs tt)
 (he:∀ (s:Shared) (H:Hp) (C:Addr) (cl:List (Str×Addr)) (fp:List Addr),PE (X.blk s H scope (compEnvC scope cl C X.env) fp) elt te) (hs:∀ x,foldedSetIterable iter X.env x=pure x:=by intro _;rfl):
 PE X (.ListComp elt [⟨tg,iter,ifs,0⟩] scope pos) (tLc wi g tt te (own.map (·.2))):=by
 intro pins s σ H Q I h
 rw[eval_ListComp]
 refine Ri hc hN I hi ok hg ht he hs h fun D C s' m H' I' q hn f=>⟨m,hn,fun h'' sb=>?_⟩
 obtain⟨f0,f1,f2,f3,f4,f5⟩:=f
 exact⟨.ref D,H',I'.turned (t':=s'.toks) (fun b o hb e=>(sb.2 b hb).trans e) f0 f1 f3 f4 f5,rfl,q⟩
theorem HF {i:Nat}{y:Str}{py:Pos}{elt tg iter:Expr}{ifs:List Expr}{scope:Scope}{own:List (Str×Nat)}{pos YY:Pos}{wi:TI}{g:TG}{tt:TT}{te:TE} (hc:X.calm=true) (hN:X.N.Nodup) (hy:X.N[i]?=some y) (hyl:X.env.scope.names.lookup y=some .local)
 (hsw:swapsWith (.ListComp elt [⟨tg,iter,ifs,0⟩] scope pos) (some (.Name y py)) YY.line X.env=pure true) (hi:PI X tg iter wi) (ok:lp X.N X.env.scope scope own)
 (hg:∀ (s:Shared) (H:Hp) (C:Addr) (cl:List (Str×Addr)) (fp:List Addr),PG (X.blk s H scope (compEnvC scope cl C X.env) fp) tg g) (ht:∀ (s:Shared) (H:Hp) (C:Addr) (cl:List (Str×Addr)) (fp:List Addr),PTs (X.blk s H scope (compEnvC scope cl C X.env) fp) ifs tt)
 (he:∀ (s:Shared) (H:Hp) (C:Addr) (cl:List (Str×Addr)) (fp:List Addr),PE (X.blk s H scope (compEnvC scope cl C X.env) fp) elt te) (hs:∀ x,foldedSetIterable iter X.env x=pure x:=by intro _;rfl):
 PS X (.Assign [.Name y py] (.ListComp elt [⟨tg,iter,ifs,0⟩] scope pos) YY) (PV (tLc wi g tt te (own.map (·.2))) (AG i)):=by
 intro pins s σ H D I h
 rw[exec_Assign_Name_used _ _ _ _ hsw]
 refine ao (wpAny_standAt (ao ?_))
 show wpAny _ X.A (do let _ ← comprehension (.ListComp elt [⟨tg,iter,ifs,0⟩] scope pos) scope X.env (firstIterPos [⟨tg,iter,ifs,0⟩] pos) (newList []) false (eval iter X.env) (some (assign (.Name y py) X.env))) _ _ s
 have h:tLc wi g tt te (own.map (·.2)) σ H (fun x H1=>AG i x σ H1 D.nx):=h
 refine ao (thn (Ri (Qf:=fun _ s'=>SP X pins D .next s') hc hN I hi ok hg ht he hs h fun L C s' m H' I' q hn f=>?_) fun _ s' hq=>aS (aS hq))
 show wpAny _ _ (assign (.Name y py) X.env (.ref L)) _ _ _
 refine wpAny_assign_Name (KZ (v:=V.ref L) I' hN hy (.inl hyl) rfl (fun s2 I2 ⟨a,sb,ha⟩=>?_) (.inr hyl))
 obtain⟨f0,f1,f2,f3,f4,f5⟩:=f
 have haC:C≠a:=by
  rcases ha with z | z
  ·rw[z];exact f1
  ·exact fun e=>f4 y a z e.symm
 refine⟨m,hn.sameBut sb haC,fun h3 sb3=>?_⟩
 exact⟨_,H',I2.turned (t':=s2.toks) (fun b o hb e=>(sb3.2 b hb).trans e) f0 f1 f3 f4 f5,q⟩
end
end L2
namespace L2
open PySem PySem.Spec PyProof.Rows
section
variable {prog:Program}{w:World}{A:Around}{R:Result→Shared→Prop}{s:Shared}{elt t0 i0 t1 i1:Expr}{ac9 ac8:List Expr}{scope:Scope}{pos:Pos}{it acc:Value}{env:Env}
end
section
variable {X:Cx}
end
end L2
namespace L2
open PySem PySem.Spec PyProof.Rows
section
variable {κ:Type} [DecidableEq κ]
def rU (kvs:List (κ×V)) (k:κ):Option V:=(kvs.find? fun kv=>decide (kv.1=k)).map (·.2)
def putK (kvs:List (κ×V)) (k:κ) (v:V):List (κ×V):=
 if (kvs.any fun kv=>decide (kv.1=k))=true then kvs.map (fun kv=>if kv.1=k then (kv.1,v) else kv) else kvs++[(k,v)]
theorem uU {p:κ×V}{r:List (κ×V)}{k:κ} (e:p.1=k):rU (p::r) k=some p.2:=by simp[rU,eM,e]
theorem uV {p:κ×V}{r:List (κ×V)}{k:κ} (e:¬ p.1=k):rU (p::r) k=rU r k:=by simp[rU,eM,e]
theorem yi (k:κ):∀ kvs:List (κ×V),(kvs.any fun kv=>decide (kv.1=k))=(rU kvs k).isSome
 | []=>rfl
 | p::r=>by
   rw[rS]
   by_cases e:p.1=k
   ·simp only[uU e,decide_eq_true e,Bool.true_or,Option.isSome_some]
   ·rw[uV e,decide_eq_false e,Bool.false_or];exact yi k r
theorem yR (kvs:List (κ×V)) (k:κ) (v:V):(putK kvs k v).length≤kvs.length+1:=by
 unfold putK
 split
 ·rw[ae];omega
 ·rw[au,aM,cR];omega
theorem Oa {kvs:List (κ×V)}{k:κ} (v:V) (h:rU kvs k=none):putK kvs k v=kvs++[(k,v)]:=by
 unfold putK
 rw[yi,h]
 exact if_neg (by decide)
theorem xP.vq {o:Option V}{u:Option Value} (r:xP o u):o.isSome=u.isSome:=by
 cases o with
 | none=>cases u with
   | none=>rfl
   | some _=>exact(show False from r).elim
 | some _=>cases u with
   | none=>exact(show False from r).elim
   | some _=>rfl
theorem xP.getD {o:Option V}{u:Option Value}{d:V}{d':Value} (r:xP o u) (rd:RelV d d'):RelV (o.getD d) (u.getD d'):=by
 cases o with
 | none=>cases u with
   | none=>exact rd
   | some _=>exact(show False from r).elim
 | some _=>cases u with
   | none=>exact(show False from r).elim
   | some _=>exact r
theorem KV.val {kvs:List (κ×V)}{vs:List (κ×Value)} (r:KV kvs vs) (k:κ):xP (rU kvs k) (valueAt vs k):=by
 unfold KV at r
 induction r with
 | nil=>exact zb
 | @cons p q ps qs h t ih=>
   obtain⟨h1,h2⟩:=h
   by_cases e:p.1=k
   ·have e':q.1=k:=h1.symm.trans e
    have b:valueAt (q::qs) k=some q.2:=by simp[valueAt,eM,e']
    rw[uU e,b];exact h2
   ·have e':¬ q.1=k:=fun z=>e (h1.trans z)
    have b:valueAt (q::qs) k=valueAt qs k:=by simp[valueAt,eM,e']
    rw[uV e,b];exact ih
theorem KV.any {kvs:List (κ×V)}{vs:List (κ×Value)} (r:KV kvs vs) (k:κ):(kvs.any fun kv=>decide (kv.1=k))=vs.any fun kv=>decide (kv.1=k):=by
 unfold KV at r
 induction r with
 | nil=>rfl
 | cons h t ih=>rw[rS,rS,ih,h.1]
theorem KV.Xo {kvs:List (κ×V)}{vs:List (κ×Value)} (r:KV kvs vs) (k:κ) {y:V}{u:Value} (ry:RelV y u):
 KV (kvs.map fun kv=>if kv.1=k then (kv.1,y) else kv) (vs.map fun kv=>if kv.1=k then (kv.1,u) else kv):=by
 unfold KV at r ⊢
 induction r with
 | nil=>exact .nil
 | @cons p q ps qs h t ih=>
   rw[aU,aU]
   refine .cons ?_ ih
   obtain⟨h1,h2⟩:=h
   by_cases e:p.1=k
   ·rw[if_pos e,if_pos (h1.symm.trans e)];exact⟨h1,ry⟩
   ·rw[if_neg e,if_neg (fun z=>e (h1.trans z))];exact⟨h1,h2⟩
theorem KV.put {kvs:List (κ×V)}{vs:List (κ×Value)} (r:KV kvs vs) (k:κ) {y:V}{u:Value} (ry:RelV y u):KV (putK kvs k y) (stored vs k u):=by
 unfold putK stored
 rw[r.any k]
 by_cases e:(vs.any fun kv=>decide (kv.1=k))=true
 ·rw[if_pos e,if_pos e];exact r.Xo k ry
 ·rw[if_neg e,if_neg e];exact Paired.snoc r ⟨rfl,ry⟩
theorem KV.length {kvs:List (κ×V)}{vs:List (κ×Value)} (r:KV kvs vs):kvs.length=vs.length:=Paired.length r
end
theorem IC {P:Program}{w:World}{k:Key}{u:Value} (r:RelV (kV k) u):(da P w).is k u=true:=by
 cases k with
 | inl i=>obtain⟨t,e⟩:=(show ∃ t,u=Value.int i t from r);subst e;exact Ox P w i t
 | inr x=>obtain⟨t,e⟩:=(show ∃ t,u=Value.str x t from r);subst e;exact Ow P w x t
theorem Ll {P:Program}{w:World}:∀ {ks:List Key}{us:List Value},Vals (ks.map kV) us→ItemsAre (da P w) ks us
 | [],_,r=>by rw[tX] at r;cases r;exact .nil
 | k::ks,_,r=>by
   rw[aU] at r
   cases r with
   | cons h t=>exact .cons (IC h) (Ll t)
abbrev KT (H:Hp):List (List Key×V)→List (List Key×Addr×Value)→Prop:=Paired fun p q=>p.1=q.1∧H q.2.1=some (.tup (p.1.map kV))∧RelV p.2 q.2.2
theorem KT.val {H:Hp}{kvs:List (List Key×V)}{xs:List (List Key×Addr×Value)} (r:KT H kvs xs) (k:List Key):xP (rU kvs k) ((atKey xs k).map (·.2)):=by
 induction r with
 | nil=>exact zb
 | @cons p q ps qs h t ih=>
   obtain⟨h1,_,h2⟩:=h
   by_cases e:p.1=k
   ·have e':q.1=k:=h1.symm.trans e
    have b:atKey (q::qs) k=some q.2:=by simp[atKey,eM,e']
    rw[uU e,b];exact h2
   ·have e':¬ q.1=k:=fun z=>e (h1.trans z)
    have b:atKey (q::qs) k=atKey qs k:=by simp[atKey,eM,e']
    rw[uV e,b];exact ih
theorem KT.Xo {H:Hp}{kvs:List (List Key×V)}{xs:List (List Key×Addr×Value)} (r:KT H kvs xs) (k:List Key) {y:V}{u:Value} (ry:RelV y u):
 KT H (kvs.map fun kv=>if kv.1=k then (kv.1,y) else kv) (xs.map (putAt k u)):=by
 induction r with
 | nil=>exact .nil
 | @cons p q ps qs h t ih=>
   rw[aU,aU]
   refine .cons ?_ ih
   obtain⟨h1,h2,h3⟩:=h
   unfold putAt
   by_cases e:p.1=k
   ·rw[if_pos e,if_pos (h1.symm.trans e)];exact⟨h1,h2,ry⟩
   ·rw[if_neg e,if_neg (fun z=>e (h1.trans z))];exact⟨h1,h2,h3⟩
theorem KT.put {H:Hp}{kvs:List (List Key×V)}{xs:List (List Key×Addr×Value)} (r:KT H kvs xs) (k:List Key) {b:Addr}{y:V}{u:Value} (hb:H b=some (.tup (k.map kV))) (ry:RelV y u):
 KT H (putK kvs k y) (storedH xs k b u):=by
 have e:(kvs.any fun kv=>decide (kv.1=k))=(atKey xs k).isSome:=by
  rw[yi,(r.val k).vq,Fb]
 unfold putK storedH
 rw[e]
 by_cases q:(atKey xs k).isSome=true
 ·rw[if_pos q,if_pos q];exact r.Xo k ry
 ·rw[if_neg q,if_neg q];exact Paired.snoc r ⟨rfl,hb,ry⟩
theorem KT.keeps {H H':Hp}{kvs:List (List Key×V)}{xs:List (List Key×Addr×Value)} (r:KT H kvs xs) (ht:∀ b ys,H b=some (.tup ys)→H' b=some (.tup ys)):KT H' kvs xs:=
 Paired.VX r fun _ _ z=>⟨z.1,ht _ _ z.2.1,z.2.2⟩
section
variable {P:Program}{w:World}{H:Hp}{h:Heap}{a:Addr}
theorem WI {u:HO} (ok:HOk P w H h) (e:Rd H a u):i5 P w H h a u:=e.ok ok
theorem IX {kvs:List (Key×V)} (ok:HOk P w H h) (e:Rd H a (.dK kvs)):kvs.length≤sizeLine∧(a == sysModules)=false∧∃ vs,KV kvs vs∧h.DictOf (da P w) a vs:=
 show i5 P w H h a (.dK kvs) from WI ok e
theorem aaj {kvs:List (Key×V)} (ok:HOk P w H h) (e:H a=some (.dK kvs)):kvs.length≤sizeLine∧(a == sysModules)=false∧∃ vs,KV kvs vs∧h.DictOf (da P w) a vs:=IX ok (.inl e)
theorem EN {ks:List Key} (ok:HOk P w H h) (e:H a=some (.tup (ks.map kV))):(tupleKind (da P w)).is h ks a:=by
 obtain⟨_,its,r,o,h1,h2,n,h3⟩:=(show i5 P w H h a (.tup (ks.map kV)) from ok a _ e)
 have h2:=(aV h2).1
 exact⟨o,its.toArray,n,h1,h2,h3,by simpa using Ll r⟩
theorem IW {kvs:List (List Key×V)} (ok:HOk P w H h) (e:Rd H a (.dT kvs)):kvs.length≤sizeLine∧(a == sysModules)=false∧
 ∃ xs,KT H kvs xs∧h.DictOfH (tupleKind (da P w)) a xs:=by
 obtain⟨z,y,xs,r,o,es,ep,h1,h2,h3,h4,h5⟩:=(show i5 P w H h a (.dT kvs) from WI ok e)
 refine⟨z,y,xs,r,o,es,ep,h1,h2,h3,h4,fun x hx=>?_,h5⟩
 have all:∀ {l:List (List Key×V)}{m:List (List Key×Addr×Value)},KT H l m→∀ x∈m,(tupleKind (da P w)).is h x.1 x.2.1:=by
  intro l m q
  induction q with
  | nil=>intro x hx;exact nomatch hx
  | @cons p q ps qs hq t ih=>
    intro x hx
    rcases aC.mp hx with e | hx
    ·subst e
     exact EN ok (by rw[← hq.1];exact hq.2.1)
    ·exact ih x hx
 exact all r x hx
theorem aai {kvs:List (List Key×V)} (ok:HOk P w H h) (e:H a=some (.dT kvs)):kvs.length≤sizeLine∧(a == sysModules)=false∧
 ∃ xs,KT H kvs xs∧h.DictOfH (tupleKind (da P w)) a xs:=IW ok (.inl e)
end
def oO (H:Hp) (a:Addr) (y:V) (r:Option V):Prop:=
 (∃ kvs k,Rd H a (.dK kvs)∧y=kV k∧r=rU kvs k)∨∃ kvs k b,Rd H a (.dT kvs)∧y=.ref b∧H b=some (.tup (k.map kV))∧r=rU kvs k
def KD (H:Hp) (a:Addr) (y v:V) (H':Hp):Prop:=
 (∃ kvs k,H a=some (.dK kvs)∧y=kV k∧kvs.length < sizeLine∧H'=upd H a (.dK (putK kvs k v)))∨
 ∃ kvs k b,H a=some (.dT kvs)∧y=.ref b∧H b=some (.tup (k.map kV))∧kvs.length < sizeLine∧H'=upd H a (.dT (putK kvs k v))
theorem oO.k {H:Hp}{a:Addr}{kvs:List (Key×V)}{k:Key} (e:H a=some (.dK kvs)):oO H a (kV k) (rU kvs k):=.inl ⟨kvs,k,.inl e,rfl,rfl⟩
theorem oO.t {H:Hp}{a b:Addr}{kvs:List (List Key×V)}{k:List Key} (e:H a=some (.dT kvs)) (eb:H b=some (.tup (k.map kV))):oO H a (.ref b) (rU kvs k):=.inr ⟨kvs,k,b,.inl e,rfl,eb,rfl⟩
theorem KD.t {H:Hp}{a b:Addr}{kvs:List (List Key×V)}{k:List Key}{v:V} (e:H a=some (.dT kvs)) (eb:H b=some (.tup (k.map kV))) (hl:kvs.length < sizeLine):
 KD H a (.ref b) v (upd H a (.dT (putK kvs k v))):=.inr ⟨kvs,k,b,e,rfl,eb,hl,rfl⟩
section
variable {X:Cx}{pins:List (Addr×Obj)}{σ:St}{H:Hp}{s:Shared}{a:Addr}{y v:V}{u r:Value}{o:Option V}{A:Around}{E:Value→Shared→Prop}
theorem Inv.big (I:Inv X pins σ H s):sysModules < s.heap.objs.size:=by
 have h:mainGlobals < s.heap.objs.size:=(I.mod.glob.keeps I.bk).lt
 exact kO (by decide) h
theorem SJ {Q:Value→Shared→Prop} (hu:A.units+1 < cLine) (I:Inv X pins σ H s) (g:oO H a y (some v)) (ry:RelV y u) (h:∀ w' s',Inv X pins σ H s'→RelV v w'→Q w' s'):
 wpAny (model X.prog X.w) A (getItem (.ref a) u) Q E s:=by
 rcases g with ⟨kvs,k,e,ey,l⟩ | ⟨kvs,k,b,e,ey,eb,l⟩
 ·subst ey
  obtain⟨z,hd,vs,rel,dd⟩:=IX I.hok e
  obtain⟨w',hw,rw'⟩:=xP.some_of (v:=v) (o:=valueAt vs k) (by rw[l];exact rel.val k)
  exact wpAny_getItem_of (IC ry) dd.mapOf hw (h w' _ (I.tok _) rw')
 ·subst ey
  cases (show u=Value.ref b from ry)
  obtain⟨z,hd,xs,rel,dd⟩:=IW I.hok e
  obtain⟨w',hw,rw'⟩:=xP.some_of (v:=v) (o:=(atKey xs k).map (·.2)) (by rw[l];exact rel.val k)
  obtain⟨p,hp,hp2⟩:=cY.mp hw
  refine wpAny_getItem_heap (qb hu) (EN I.hok eb) dd hp ?_
  rw[hp2]
  exact h w' _ (I.tok _) rw'
theorem acY {Q:Value→Shared→Prop} (hu:A.units+1 < cLine) (I:Inv X pins σ H s) (g:oO H a y o) (ry:RelV y u) (h:∀ s',Inv X pins σ H s'→Q (.bool o.isSome) s'):
 wpAny (model X.prog X.w) A (compareOp .In u (.ref a)) Q E s:=by
 rcases g with ⟨kvs,k,e,ey,l⟩ | ⟨kvs,k,b,e,ey,eb,l⟩
 ·subst ey
  obtain⟨z,hd,vs,rel,dd⟩:=IX I.hok e
  refine wpAny_in_of (IC ry) hd dd.mapOf ?_
  rw[← (rel.val k).vq,← l]
  exact h _ (I.tok _)
 ·subst ey
  cases (show u=Value.ref b from ry)
  obtain⟨z,hd,xs,rel,dd⟩:=IW I.hok e
  refine wpAny_in_heap (qb hu) (EN I.hok eb) hd dd ?_
  have q:=(rel.val k).vq
  rw[Fb] at q
  rw[← q,← l]
  exact h _ (I.tok _)
theorem Wk {Q:Value→Shared→Prop} (hu:A.units+1 < cLine) (I:Inv X pins σ H s) (g:oO H a y o) (ry:RelV y u) (h:∀ s',Inv X pins σ H s'→Q (.bool (!o.isSome)) s'):
 wpAny (model X.prog X.w) A (compareOp .NotIn u (.ref a)) Q E s:=by
 rcases g with ⟨kvs,k,e,ey,l⟩ | ⟨kvs,k,b,e,ey,eb,l⟩
 ·subst ey
  obtain⟨z,hd,vs,rel,dd⟩:=IX I.hok e
  refine wpAny_notIn_of (IC ry) hd dd.mapOf ?_
  rw[← (rel.val k).vq,← l]
  exact h _ (I.tok _)
 ·subst ey
  cases (show u=Value.ref b from ry)
  obtain⟨z,hd,xs,rel,dd⟩:=IW I.hok e
  refine wpAny_notIn_heap (qb hu) (EN I.hok eb) hd dd ?_
  have q:=(rel.val k).vq
  rw[Fb] at q
  rw[← q,← l]
  exact h _ (I.tok _)
theorem RB {h':Heap}{t':Nat}{ob:HO} (I:Inv X pins σ H s) (mu:Mut (H a)) (hs:Heap.SameBut a s.heap h') (he:∃ q,h'.get? a=some q) (new:i5 X.prog X.w (upd H a ob) h' a ob):
 Inv X pins σ (upd H a ob) { s with heap:=h',toks:=t' }:=
 I.write (x:=a) (e:=a) mu (.inl rfl) (fun b q hb z=>(hs.2 b hb).trans z) he new
theorem Yr {P:Program}{w:World}{H':Hp}{h':Heap}{kvs:List (Key×V)}{vs:List (Key×Value)} (z:kvs.length≤sizeLine) (hd:(a == sysModules)=false) (rel:KV kvs vs) (dd:h'.DictOf (da P w) a vs):
 i5 P w H' h' a (.dK kvs):=⟨z,hd,vs,rel,dd⟩
theorem SI {H':Hp}{Q:Unit→Shared→Prop} (hu:A.units+1 < cLine) (I:Inv X pins σ H s) (g:KD H a y v H') (ry:RelV y u) (rv:RelV v r) (h:∀ s',Inv X pins σ H' s'→Q () s'):
 wpAny (model X.prog X.w) A (setItem (.ref a) u r) Q E s:=by
 rcases g with ⟨kvs,k,e,ey,l,eH⟩ | ⟨kvs,k,b,e,ey,eb,l,eH⟩
 ·subst ey eH
  obtain⟨z,hd,vs,rel,dd⟩:=aaj I.hok e
  have hz:vs.length≤sizeLine:=by rw[← rel.length];exact z
  have hl:(putK kvs k v).length≤sizeLine:=by have:=yR kvs k v;omega
  refine wpAny_setItem_pairs (hsz:=hz) (IC ry) dd fun h' dd' hs=>h _ ?_
  have he:∃ q,h'.get? a=some q:=let ⟨q,_,_,hq,_⟩:=dd';⟨q,hq⟩
  exact RB I (by rw[e];exact zb) hs he (Yr hl hd (rel.put k rv) dd')
 ·subst ey eH
  cases (show u=Value.ref b from ry)
  obtain⟨z,hd,xs,rel,dd⟩:=aai I.hok e
  have hz:xs.length≤sizeLine:=by rw[← Paired.length rel];exact z
  have hl:(putK kvs k v).length≤sizeLine:=by have:=yR kvs k v;omega
  refine wpAny_setItem_heap (hsz:=hz) (qb hu) (EN I.hok eb) dd fun h' dd' hs=>h _ ?_
  obtain⟨q,es,ep,hq,h2,h3,h4,_,h5⟩:=dd'
  refine RB I (by rw[e];exact zb) hs ⟨q,hq⟩ ⟨hl,hd,_,(rel.put k eb rv).keeps fun c ys ec=>?_,q,es,ep,hq,h2,h3,h4,h5⟩
  rw[aN (cu ec e (fun z=>nomatch z))]
  exact ec
end
section
variable {X:Cx}{pins:List (Addr×Obj)}{σ:St}{H:Hp}{s:Shared}{a:Addr}{kvs:List (Key×V)}{k:Key}{u:Value}{A:Around}{E:Value→Shared→Prop}
end
def aan (i:Expr):Prop:=∀ ov iv,subscripted i false ov iv=operate [ov,iv] (getItem ov iv)
theorem VB {prog:Program}{w:World}{A:Around}{E:Value→Shared→Prop}{s:Shared}{env:Env}{value slice:Expr}{pos:Pos}{T id:String}{Q:Value→Shared→Prop}
 (hl:typeLookup (.type T) "__getitem__"=pure (some (.builtin id))) (hs:aan slice)
 (h:wpAny (model prog w) A (eval value env) (fun o s₁=>wpAny (model prog w) A (eval slice env) (fun i s₂=>s₂.TypeIs o T∧wpAny (model prog w) A (getItem o i) Q E s₂) E s₁) E s):
 wpAny (model prog w) A (eval (.Subscript value slice pos) env) Q E s:=by
 refine Subscript_ (g8 h (fun o s₁ h₁=>g8 h₁ (fun i s₂ h₂=>?_) fun _ _ x=>x) fun _ _ x=>x)
 obtain⟨hT,h₂⟩:=h₂
 unfold subscriptTail
 refine ao ?_
 rw[getitemInPython_of_ne hT.not_modules]
 refine ao (wpAny_specialOf hT hl ?_)
 have fin:wpAny (model prog w) A (subscripted slice false o i) (fun r s₃=>wpAny (model prog w) A (letTemporaryGo value o r >>= fun _=>pure r) Q E s₃) E s₂:=by
  rw[hs o i]
  exact wpAny_operating (g8 h₂ (fun r s₃ h₃=>ao (wpAny_letTemporaryGo (aS h₃))) fun _ _ x=>x)
 first
  | exact aS (ao fin)
  | exact ao (aS (ao fin))
  | exact ao fin
theorem O7 {X:Cx}{pins:List (Addr×Obj)}{σ:St}{H:Hp}{s:Shared}{a:Addr}{y:V}{o:Option V} (I:Inv X pins σ H s) (g:oO H a y o):s.TypeIs (.ref a) "dict":=by
 rcases g with ⟨kvs,k,e,_,_⟩ | ⟨kvs,k,b,e,_,_,_⟩
 ·obtain⟨_,_,vs,_,dd⟩:=IX I.hok e
  exact dd.typeIs
 ·obtain⟨_,_,xs,_,dd⟩:=IW I.hok e
  exact dd.typeIs
inductive aaB (x y:V) (H2:Hp) (Q:VK):Prop | mk (a:Addr) (v:V) (_:x=.ref a) (_:oO H2 a y (some v)) (_:Q v H2):aaB x y H2 Q
def YV (td ty:TE):TE:=fun σ H Q=>td σ H fun x H1=>ty σ H1 fun y H2=>aaB x y H2 Q
inductive aaA (x y:V) (H2:Hp) (Q:VK):Prop | mk (a:Addr) (o:Option V) (_:x=.ref a) (_:oO H2 a y o) (_:Q (.bl o.isSome) H2):aaA x y H2 Q
def aaN (ty td:TE):TE:=fun σ H Q=>ty σ H fun y H1=>td σ H1 fun x H2=>aaA x y H2 Q
inductive aaz (x y:V) (H2:Hp) (Q:VK):Prop | mk (a:Addr) (o:Option V) (_:x=.ref a) (_:oO H2 a y o) (_:Q (.bl (!o.isSome)) H2):aaz x y H2 Q
def VA (ty td:TE):TE:=fun σ H Q=>ty σ H fun y H1=>td σ H1 fun x H2=>aaz x y H2 Q
inductive aay (x y v:V) (H3:Hp) (R:Hp→Prop):Prop | mk (a:Addr) (H4:Hp) (_:x=.ref a) (_:KD H3 a y v H4) (_:R H4):aay x y v H3 R
def Y1 (td ty tv:TE):TS:=fun D σ H=>tv σ H fun v H1=>td σ H1 fun x H2=>ty σ H2 fun y H3=>aay x y v H3 (D.nx σ)
section
variable {X:Cx}{o i e value:Expr}{pos pos' aaG:Pos}{td ty tv:TE}
theorem wH (hu:X.A.units+1 < cLine) (ho:PE X o td) (hi:PE X i ty) (hs:aan i):PE X (.Subscript o i pos) (YV td ty):=by
 intro pins s σ H Q I h
 refine VB PySem.F.slot_dict_getitem.lookup hs (thn (ho pins s σ H _ I h) fun u s1 ⟨x,H1,I1,rx,q1⟩=>thn (hi pins s1 σ H1 _ I1 q1) fun iv s2 ⟨y,H2,I2,ry,a,v,ex,g,q2⟩=>?_)
 subst ex
 obtain rfl:u=Value.ref a:=rx
 exact⟨O7 I2 g,SJ hu I2 g ry fun w' s3 I3 rw'=>⟨v,H2,I3,rw',q2⟩⟩
theorem Xy (hu:X.A.units+1 < cLine) (hi:PE X i ty) (ho:PE X o td):PC X .In i o (aaN ty td):=by
 intro pins s σ H Q I h
 refine thn (hi pins s σ H _ I h) fun iv s1 ⟨y,H1,I1,ry,q1⟩=>thn (ho pins s1 σ H1 _ I1 q1) fun u s2 ⟨x,H2,I2,rx,a,ov,ex,g,q2⟩=>?_
 subst ex
 obtain rfl:u=Value.ref a:=rx
 exact acY hu I2 g ry fun s3 I3=>⟨.bl ov.isSome,H2,I3,rfl,q2⟩
theorem vc (hu:X.A.units+1 < cLine) (hi:PE X i ty) (ho:PE X o td):PC X .NotIn i o (VA ty td):=by
 intro pins s σ H Q I h
 refine thn (hi pins s σ H _ I h) fun iv s1 ⟨y,H1,I1,ry,q1⟩=>thn (ho pins s1 σ H1 _ I1 q1) fun u s2 ⟨x,H2,I2,rx,a,ov,ex,g,q2⟩=>?_
 subst ex
 obtain rfl:u=Value.ref a:=rx
 exact Wk hu I2 g ry fun s3 I3=>⟨.bl (!ov.isSome),H2,I3,rfl,q2⟩
theorem CG (hu:X.A.units+1 < cLine) (ho:PE X o td) (hi:PE X i ty) (hv:PE X value tv) (hs:swapsWith value (some (.Subscript o i pos')) pos.line X.env=pure false):
 PS X (.Assign [.Subscript o i pos'] value pos) (Y1 td ty tv):=by
 intro pins s σ H D I h
 refine wpAny_Assign_Subscript (thn (hv pins s σ H _ I h) fun r s1 ⟨v,H1,I1,rv,q1⟩=>thn (ho pins s1 σ H1 _ I1 q1) fun u s2 ⟨x,H2,I2,rx,q2⟩=>thn (hi pins s2 σ H2 _ I2 q2) fun iv s3 ⟨y,H3,I3,ry,a,H4,ex,g,q3⟩=>?_) hs
 subst ex
 obtain rfl:u=Value.ref a:=rx
 exact SI hu I3 g ry rv fun s4 I4=>⟨σ,H4,I4,q3⟩
end
theorem UZ {P:Program}{w:World}{H:Hp} (h:Heap) (hb:sysModules < h.objs.size):i5 P w H (h.push { cls:=.type "dict",data:=.dict #[] }) h.objs.size (.dT []):=
 ⟨aT _,beq_eq_false_iff_ne.mpr (br (bV hb)),[],.nil,_,#[],0,Heap.get?_push_size _ rfl,⟨rfl,rfl,rfl⟩,rfl,rfl,pS⟩
def Xg:TE:=fun _ H Q=>∀ p,H p=none→Q (.ref p) (upd H p (.dT []))
section
variable {X:Cx}{pos:Pos}
theorem HI:PE X (.Dict [] [] pos) Xg:=fun pins s σ H Q I h=>
 wpAny_Dict_empty ⟨.ref s.heap.objs.size,_,I.laid (a:=s.heap.objs.size) (o:=.dT []) (t':=s.toks) (fun _ _ q=>Heap.get?_push_of_some _ q) (aB _) (UZ s.heap I.big),rfl,h _ (I.hok.fresh (aB _))⟩
end
def nv (kvs more:List (Key×V)):List (Key×V):=more.foldl (fun acc kv=>putK acc kv.1 kv.2) kvs
theorem KV.merge:∀ {more:List (Key×V)}{rs:List (Key×Value)}{kvs:List (Key×V)}{vs:List (Key×Value)},KV more rs→KV kvs vs→KV (nv kvs more) (merged vs rs):=by
 intro more rs kvs vs r
 unfold KV at r
 induction r generalizing kvs vs with
 | nil=>intro q;exact q
 | @cons p q ps qs h t ih=>
   intro r0
   have e:KV (putK kvs p.1 p.2) (stored vs q.1 q.2):=by
    have:=r0.put p.1 h.2
    rw[← h.1];exact this
   exact ih e
theorem uJ:∀ (more kvs:List (Key×V)),(nv kvs more).length≤kvs.length+more.length
 | [],kvs=>by show kvs.length≤kvs.length+0;omega
 | p::r,kvs=>by
   have h1:=uJ r (putK kvs p.1 p.2)
   have h2:=yR kvs p.1 p.2
   show(nv (putK kvs p.1 p.2) r).length≤_
   rw[aM];omega
structure M2 (X:Cx) (o:Expr) (m:Str) (apos:Pos) (e f:Expr) (vE:Pos):Prop where
 base:attributeBase o m X.env (eval o X.env)=eval o X.env
 few:((backTo vE (starEach [e,f] X.env)).all (fun x=>!x.1) && (backToKw vE (keywordEach [] X.env)).all (fun x=>x.1.isSome)
  && decide (([e,f]:List Expr).length+([]:List Keyword).length+(if ([]:List Keyword).isEmpty then 0 else 1) < 30))=true
 line:(apos.endLine == vE.line)=true
 trees:backTo vE (starEach [e,f] X.env)=[(false,eval e X.env),(false,eval f X.env)]
def IsD (H:Hp) (a:Addr):Prop:=(∃ kvs,Rd H a (.dK kvs))∨∃ kvs,Rd H a (.dT kvs)
theorem XS {X:Cx}{pins:List (Addr×Obj)}{σ:St}{H:Hp}{s:Shared}{a:Addr} (I:Inv X pins σ H s) (d:IsD H a):
 s.TypeIs (.ref a) "dict"∧(∀ b,Value.ref a=.ref b→∃ ob,s.heap.get? b=some ob∧ob.dict=none)∧(a == sysModules)=false:=by
 rcases d with ⟨kvs,e⟩ | ⟨kvs,e⟩
 ·obtain⟨_,hd,vs,_,dd⟩:=IX I.hok e
  refine⟨dd.typeIs,fun b q=>?_,hd⟩
  cases q
  obtain⟨ob,_,_,h1,h2,_⟩:=dd
  exact⟨ob,h1,h2.2.1⟩
 ·obtain⟨_,hd,xs,_,dd⟩:=IW I.hok e
  refine⟨dd.typeIs,fun b q=>?_,hd⟩
  cases q
  obtain⟨ob,_,_,h1,h2,_⟩:=dd
  exact⟨ob,h1,h2.2.1⟩
section
variable {X:Cx}{pins:List (Addr×Obj)}{σ:St}{H:Hp}{s:Shared}{a:Addr}{y d:V}{u r:Value}{o:Option V}{A:Around}{E:Value→Shared→Prop}
theorem Ys {Q:Value→Shared→Prop} (hu:A.units+1 < cLine) (I:Inv X pins σ H s) (g:oO H a y o) (ry:RelV y u) (rd:RelV d r) (h:∀ w' s',Inv X pins σ H s'→RelV (o.getD d) w'→Q w' s'):
 wpAny (model X.prog X.w) A (call (.builtin "dict.get") [.ref a,u,r]) Q E s:=by
 rcases g with ⟨kvs,k,e,ey,l⟩ | ⟨kvs,k,b,e,ey,eb,l⟩
 ·subst ey
  obtain⟨z,hd,vs,rel,dd⟩:=IX I.hok e
  refine call_meetsIn yc dd.typeIs PySem.F.entry_dict_get (PySem.F.args_dict_get_3 _ _ _) (meets_dict_get_default (da X.prog X.w) a (IC ry) hd r) ⟨_,dd.mapOf,h _ _ (I.tok _) ?_⟩
  rw[l]
  exact(rel.val k).getD rd
 ·subst ey
  cases (show u=Value.ref b from ry)
  obtain⟨z,hd,xs,rel,dd⟩:=IW I.hok e
  refine call_meetsIn yc dd.typeIs PySem.F.entry_dict_get (PySem.F.args_dict_get_3 _ _ _) (meetsH_dict_get_default (tupleKind (da X.prog X.w)) a b hd r) ⟨qb hu,k,xs,EN I.hok eb,dd,h _ _ (I.tok _) ?_⟩
  rw[l]
  exact(rel.val k).getD rd
end
def Xh (td ty tx:TE):TE:=fun σ H Q=>td σ H fun x H1=>∃ a,x=.ref a∧IsD H1 a∧ty σ H1 fun y H2=>tx σ H2 fun z H3=>∃ o,oO H3 a y o∧Q (o.getD z) H3
section
variable {X:Cx}{o e f:Expr}{apos vE:Pos}{td ty tx:TE}
theorem Of (hu:X.A.units+1 < cLine) (ho:PE X o td) (he:PE X e ty) (hf:PE X f tx) (m:M2 X o "get" apos e f vE):PE X (.Call (.Attribute o "get" apos) [e,f] [] vE) (Xh td ty tx):=by
 intro pins s σ H Q I h
 refine wpAny_Call_method m.base m.few m.line PySem.F.plainAttrs_dict yc PySem.F.type_dict_get (thn (ho pins s σ H _ I h) fun u s1 ⟨x,H1,I1,rx,a,ex,d,q1⟩=>?_)
 subst ex
 obtain rfl:u=Value.ref a:=rx
 obtain⟨t1,t2,_⟩:=XS I1 d
 refine⟨t1,t2,?_⟩
 rw[m.trees]
 refine Calls.callWith_builtin rfl (Calls.evalArgs_plain (Calls.spliced_cons (thn (he pins s1 σ H1 _ I1 q1) fun iv s2 ⟨y,H2,I2,ry,q2⟩=>
  Calls.spliced_cons (thn (hf pins s2 σ H2 _ I2 q2) fun fv s3 ⟨z,H3,I3,rz,ov,g,q3⟩=>Calls.spliced_nil ?_))))
 exact Ys hu I3 g ry rz fun w' s4 I4 rw'=>⟨_,H3,I4,rw',q3⟩
end
section
variable {X:Cx}{pins:List (Addr×Obj)}{σ:St}{H:Hp}{s:Shared}{a:Addr}{kvs:List (Key×V)}{A:Around}{E:Value→Shared→Prop}
end
section
variable {X:Cx}{pins:List (Addr×Obj)}{σ:St}{H:Hp}{s:Shared}{a:Addr}{y:V}{u:Value}{A:Around}{E:Value→Shared→Prop}
end
end L2
namespace L2
open PySem PySem.Spec PyProof.Rows
theorem Io:typeLookup (.type "list") "keys"=pure none:=am_miss_of_fast (by first | decide +kernel | rfl)
theorem B8:entryFor table "dict.update.loop"=some Builtin.«dict.update.loop»:=entryFor_of_tree (by kernel_rfl)
theorem mF:plainId "dict.update.loop"=true:=by decide +kernel
section
variable {prog:Program}{w:World}{A:Around}{E:Value→Shared→Prop}
theorem Sj {s:Shared}{a:Addr}{o:Obj}{xs:Array Value}{k:Nat}{Q:Option Value→Shared→Prop} (hx:s.heap.get? a=some o) (hc:o.cls=.type "list") (uN:o.data=.seq xs k) (hd:o.dict=none) (hA:A.handled=none)
 (h:∀ h' tk,(∀ b ob,s.heap.get? b=some ob→h'.get? b=some ob)→Q none { s with heap:=h',toks:=tk }):wpAny (model prog w) A (getAttr? (.ref a) "keys") Q E s:=by
 obtain⟨c,dct,dat,sl⟩:=o
 simp only at hc uN hd
 subst hc uN hd
 obtain⟨hp,g,d,tk,os⟩:=s
 have hT:∀ tk',(⟨hp,g,d,tk',os⟩:Shared).TypeIs (.ref a) "list":=fun _=>⟨_,hx,rfl⟩
 have Uv:=Io
 have Uu:(["__module__","__name__","__qualname__","__doc__","__annotations__"]:List Str).contains "keys"=false:=by decide +kernel
 have hsz:("keys" :Str).length+100≤sizeLine:=by first | size_fits | decide +kernel
 have f1:=sub_AttributeError
 have f3:=qc.lookup
 have f4:=qc.bind (.ref a)
 have f5:=am_list_getattr_none
 unfold getAttr? getAttrBy? getAttrBy
 repeat (any_goals (first | assumption | exact hT _ | ((with_reducible show wpAny _ _ (call (Value.builtin "list.__getattribute__") _ _) _ _ _);refine tO qc (hT _) am_entry_list_getattribute (PySem.F.args_list_getattribute_2 _ _) (meets_getattribute_miss_list a xs k sl "keys" _ Uv Uu hsz) ⟨hx,hA,fun h' tk' e hx'=>?_⟩) | wp_step))
 obtain⟨t',u',he⟩:=hx'.there
 show wpAny _ _ (getattributeRaised _ _ _ _ _ _ _) _ _ _
 unfold getattributeRaised
 repeat (any_goals (first | assumption | wp_step))
 all_goals first | exact h _ _ hx'.keeps | (dsimp only;repeat (any_goals (first | assumption | exact h _ _ hx'.keeps | wp_step)))
theorem NK {R:Result→Shared→Prop}{S I l:Addr}{items:Array Value}{res:Value} (hh:A.handled=none) (hlI:l≠I) (hSI:S≠I) (hSl:S≠l):
 ∀ (rest:List (Key×Value)) (i:Nat) (acc:List (Key×Value)) (ix:Int) (t:Tok) (s:Shared),items.size=i+rest.length→acc.length+rest.length≤sizeLine→
   (∀ (j:Nat) (q:Key×Value),rest[j]?=some q→∃ (b:Addr) (u:Value),items[i+j]?=some (.ref b)∧b≠S∧b≠I∧IsTup s.heap b #[u,q.2]∧vp q.1 u=true)→
   s.heap.IsListIter I l i→s.heap.IsList l items→s.heap.DictOf (da prog w) S acc→
   (∀ h' tk,h'.DictOf (da prog w) S (merged acc rest)→(∀ b o,b≠S→b≠I→s.heap.get? b=some o→h'.get? b=some o)→R (.ok (.ret res)) { s with heap:=h',toks:=tk })→
   codeAny (model prog w) A (.builtin "dict.update.loop" ⟨[.ref S,.ref I,.int ix t,res],[]⟩) R s
 | [],i,acc,ix,t,s,hsz,hln,ht,hit,hl,hm,hR=>by
   refine pQ B8 ?_
   rw[Around.under_plainId mF _]
   show wpAny _ A.in1 (pyNext (.ref I) >>= _) _ _ s
   refine ao (wpAny_pyNext_list_end (A:=A.in1) hh hit hl (by first | exact yf (uo hsz) | (simp at hsz;simp;omega)) fun h' he=>?_)
   show wpAny _ A.in1 (Builtin.Dict.addKeywords S [] >>= _) _ _ _
   refine ao (aS (aS ?_))
   exact hR h' s.toks (hm.extBut he hSI) fun b o _ hb e=>he b o hb e
 | q::rest,i,acc,ix,t,s,hsz,hln,ht,hit,hl,hm,hR=>by
   obtain⟨b,u,hb,hbS,hbI,XX,hk⟩:=ht 0 q rfl
   rw[aM] at hsz hln
   refine pQ B8 ?_
   rw[Around.under_plainId mF _]
   show wpAny _ A.in1 (pyNext (.ref I) >>= _) _ _ s
   refine ao (wpAny_pyNext_list_item (x:=.ref b) hit hl (by simpa using hb) fun h1 X8 hs1=>?_)
   have ht1:IsTup h1 b #[u,q.2]:=XX.extBut hs1.extBut hbI
   have hl1:h1.IsList l items:=hl.extBut hs1.extBut hlI
   have hm1:h1.DictOf (da prog w) S acc:=hm.extBut hs1.extBut hSI
   obtain⟨o,ho,hc,n,hd⟩:=id ht1
   show wpAny _ A.in1 (holding [Value.ref b] _ >>= _) _ _ _
   refine ao (jP ?_)
   refine ao (wpAny_tryCatch ?_)
   unfold Builtin.Dict.pairItems
   refine ao (BZ (T:="tuple") ⟨o,ho,hc⟩ ?_)
   rw[if_pos (by first | decide | rfl | simp)]
   refine ao (wpAny_seqItems ho hd (aS ?_))
   show wpAny _ A.in1 (holding [u,q.2] (dictSet S u q.2)) _ _ _
   refine jP (wpAny_dictSet_pairs (knd:=da prog w) (k:=q.1) hk hm1 (fun h2 hm2 hs2=>?_) (by omega))
   refine aS ⟨mD mF _,NK (items:=items) hh hlI hSI hSl rest (i+1) (stored acc q.1 q.2) (ix+1) 0 _ (show items.size=i+1+rest.length by omega) ?_ (fun j q' e=>?_) ?_ ?_ hm2 fun h' tk hd' k=>?_⟩
   ·have z:=stored_length_le acc q.1 q.2
    omega
   ·obtain⟨b',u',hb',UJ,UK,Ur,hk'⟩:=ht (j+1) q' (by simpa using e)
    refine⟨b',u',?_,UJ,UK,(Ur.extBut hs1.extBut UK).extBut hs2.extBut UJ,hk'⟩
    rw[show i+1+j=i+(j+1) by omega]
    exact hb'
   ·exact X8.at fun o' e=>hs2.extBut I o' (br hSI) e
   ·exact hl1.extBut hs2.extBut (br hSl)
   ·exact hR h' tk hd' fun c oc h3 h4 e=>k c oc h3 h4 (hs2.extBut c oc h3 (hs1.extBut c oc h4 e))
theorem Gk {s:Shared}{l:Addr}{ol:Obj}{items:Array Value}{n:Nat}{prs:List (Key×Value)}{Q:Value→Shared→Prop} (hh:A.handled=none) (hl:s.heap.get? l=some ol) (hc:ol.cls=.type "list") (hd:ol.dict=none)
 (uN:ol.data=.seq items n) (hsz:items.size=prs.length) (hln:prs.length≤sizeLine)
 (ht:∀ (j:Nat) (q:Key×Value),prs[j]?=some q→∃ (b:Addr) (u:Value),items[j]?=some (.ref b)∧IsTup s.heap b #[u,q.2]∧vp q.1 u=true)
 (h:∀ h' tk,h'.DictOf (da prog w) s.heap.objs.size (merged [] prs)→(∀ b o,s.heap.get? b=some o→h'.get? b=some o)→Q (.ref s.heap.objs.size) { s with heap:=h',toks:=tk }):
 wpAny (model prog w) A (call (.type "dict") [.ref l]) Q E s:=by
 refine callType_codes (Q₁:=fun obj s₁=>obj=.ref s.heap.objs.size∧s₁={ s with heap:=s.heap.push { cls:=.type "dict",data:=.dict #[] } }) PySem.F.kt_called_dict (PySem.F.kt_typeCall_dict_1 _) PySem.F.entry_dict_init (kt_code_dict_new _ ⟨rfl,rfl⟩) ?_
 rintro obj s₁ ⟨rfl,rfl⟩
 have Gg:(s.heap.push { cls:=.type "dict",data:=.dict #[] }).DictOf (da prog w) s.heap.objs.size []:=Heap.DictOf.new s.heap
 have k0:∀ b o,s.heap.get? b=some o→(s.heap.push { cls:=.type "dict",data:=.dict #[] }).get? b=some o:=fun b o e=>Heap.get?_push_of_some _ e
 refine⟨Gg.typeIs,PySem.F.args_dict_init_2 _ _,?_⟩
 unfold Builtin.«dict.__init__»
 refine ao ?_
 unfold Builtin.Dict.selfAndRest
 refine ao (DU Gg.typeIs ?_)
 show wpAny _ _ (pure (s.heap.objs.size,[Value.ref l])) _ _ _
 refine aS ?_
 show wpAny _ _ (Builtin.Dict.updateFrom "dict.__init__" s.heap.objs.size (.ref l) [] .none) _ _ _
 unfold Builtin.Dict.updateFrom
 refine ao (BZ (T:="list") ⟨ol,k0 _ _ hl,hc⟩ ?_)
 rw[if_pos (by first | decide | rfl | simp)]
 refine ao (Sj (k0 _ _ hl) hc uN hd hh fun h1 tk1 hk1=>?_)
 rw[if_pos (show(none:Option Value).isNone=true from rfl)]
 refine ao (wpAny_rule ?_)
 have hl1:h1.IsList l items:=⟨ol,hk1 _ _ (k0 _ _ hl),hc,n,uN⟩
 have hS1:s.heap.objs.size < h1.objs.size:=by
  have e:(s.heap.push { cls:=.type "dict",data:=.dict #[] }).get? s.heap.objs.size=some { cls:=.type "dict",data:=.dict #[] }:=Heap.get?_push_size _ rfl
  exact Heap.lt_size (hk1 _ _ e)
 refine ao (wpAny_pyIter_list hl1 ?_)
 have k2:∀ b o,h1.get? b=some o→(h1.push { cls:=.type "list_iterator",data:=.fields #[.ref l,.int 0 0] }).get? b=some o:=fun b o e=>Heap.get?_push_of_some _ e
 have hlt:l < s.heap.objs.size:=Heap.lt_size hl
 have key:=NK (prog:=prog) (w:=w) (A:=A.in1) (R:=wants (fun r s₂=>r=.none∧Q (.ref s.heap.objs.size) s₂) E) (S:=s.heap.objs.size) (I:=h1.objs.size) (l:=l) (items:=items) (res:=Value.none) hh
  (bV (kO hlt hS1)) (bV hS1) (zr hlt) prs 0 [] 0 0
  { s with heap:=h1.push { cls:=.type "list_iterator",data:=.fields #[.ref l,.int 0 0] },toks:=tk1 } (by rw[hsz,fD]) (by rw[cR,fD];exact hln)
  (fun j q e=>by
    obtain⟨b,u,e1,e2,e3⟩:=ht j q e
    have hb:b < s.heap.objs.size:=e2.lt
    exact⟨b,u,by rw[fD];exact e1,bV hb,bV (kO hb hS1),e2.keeps fun c o z=>k2 _ _ (hk1 _ _ (k0 _ _ z)),e3⟩)
  ⟨_,Heap.get?_push_size _ rfl,rfl,rfl⟩ (hl1.at fun o e=>k2 _ _ e) ((Gg.at fun o e=>hk1 _ _ e).at fun o e=>k2 _ _ e)
  (fun h' tk hd' k=>⟨rfl,h h' tk hd' fun b o e=>k b o (bV (Heap.lt_size e)) (bV (kO (Heap.lt_size e) hS1)) (k2 _ _ (hk1 _ _ (k0 _ _ e)))⟩)
 first
  | exact aS ⟨mD mF _,key⟩
  | exact ao (aS (aS ⟨mD mF _,key⟩))
end
section
variable {X:Cx}
theorem HJ {pins:List (Addr×Obj)}{σ:St}{H:Hp}{s:Shared} (I:Inv X pins σ H s):∀ {ps:List Addr}{kvs:List (Key×V)},Paired (fun p kv=>SqT X.K H p [kV kv.1,kv.2]) ps kvs→
 ∃ prs:List (Key×Value),KV kvs prs∧prs.length=ps.length∧∀ (j:Nat) (q:Key×Value),prs[j]?=some q→∃ (b:Addr) (u:Value),ps[j]?=some b∧IsTup s.heap b #[u,q.2]∧vp q.1 u=true
 | _,_,.nil=>⟨[],.nil,rfl,fun j q e=>by simp at e⟩
 | _,_,.cons (a:=p) (b:=kv) h t=>by
   obtain⟨prs,r,hl,hp⟩:=HJ I t
   obtain⟨its,rv,ht,_⟩:=I.tuple h
   obtain⟨u,y,ei,ru,ry⟩:=vals2 rv
   subst ei
   refine⟨(kv.1,y)::prs,.cons ⟨rfl,ry⟩ r,by rw[aM,aM,hl],fun j q e=>?_⟩
   cases j with
   | zero=>
     have e':(kv.1,y)=q:=aa e
     subst e'
     exact⟨p,u,rfl,ht,IC (P:=X.prog) (w:=X.w) ru⟩
   | succ j=>
     obtain⟨b,u',e1,e2,e3⟩:=hp j q (by simpa using e)
     exact⟨b,u',by simpa using e1,e2,e3⟩
theorem Md:∀ {ps:List Addr}{us:List Value},Vals (ps.map V.ref) us→us=ps.map Value.ref
 | [],us,r=>by
   rw[tX] at r
   cases r
   rfl
 | p::ps,us,r=>by
   rw[aU] at r
   cases r with
   | cons h t=>
     cases h
     rw[aU,← Md t]
theorem QM (UH:X.calm=true):FA X (.type "dict") (fun xs H Q=>∃ (a:Addr) (ps:List Addr) (kvs:List (Key×V)),xs=[.ref a]∧SqL X.K H a (ps.map V.ref)∧Paired (fun p kv=>SqT X.K H p [kV kv.1,kv.2]) ps kvs∧
 ∀ p,H p=none→Q (.ref p) (upd H p (.dK (nv [] kvs)))):=by
 intro pins s σ H xs us Q I r q
 obtain⟨a,ps,kvs,ex,hq,hp,q⟩:=q
 subst ex
 obtain⟨u,eu,rx⟩:=vals1 r
 subst eu
 cases rx
 obtain⟨its,rv,pl,hz⟩:=I.list hq
 have ei:=Md rv
 subst ei
 rw[ae] at hz
 obtain⟨prs,rel,hl,hpr⟩:=HJ I hp
 obtain⟨o,n,ho,hc,hd,uN⟩:=pl
 refine Gk (prs:=prs) (I.ok.hd UH) ho hc hd uN (by simp[hl]) (by rw[hl];exact hz) (fun j q' e=>?_) fun h' tk hd' k=>?_
 ·obtain⟨b,u,e1,e2,e3⟩:=hpr j q' e
  exact⟨b,u,by simp[e1],e2,e3⟩
 ·have hm:(s.heap.objs.size == sysModules)=false:=beq_eq_false_iff_ne.mpr (zr I.big)
  have hlen:(nv [] kvs).length≤sizeLine:=by
   refine bP (uJ kvs []) ?_
   rw[cR,fD,rel.length,hl]
   exact hz
  exact⟨.ref s.heap.objs.size,upd H s.heap.objs.size (.dK (nv [] kvs)),I.laid (t':=tk) k (aB _) (show i5 X.prog X.w _ _ _ (.dK (nv [] kvs)) from⟨hlen,hm,merged [] prs,KV.merge rel .nil,hd'⟩),rfl,q _ (I.hok.fresh (aB _))⟩
end
end L2
namespace L2
open PySem PySem.Spec PyProof.Rows
section
variable {X:Cx}{pins:List (Addr×Obj)}{σ:St}{H:Hp}{s:Shared}{h':Heap}
theorem Inv.lock {d:Addr}{u:HO} (I:Inv X pins σ H s) (h:H d=some u) (mu:Mut (some u)):∃ od,Inv X pins σ (upd H d (.frz od u)) s:=by
 have x:=I.hok d u h
 have ex:∃ od,s.heap.get? d=some od:=by
  cases u with
  | lst xs=>obtain⟨_,_,_,_,e⟩:=x;exact⟨_,e⟩
  | dK kvs=>obtain⟨_,_,_,_,o,_,_,e,_⟩:=x;exact⟨o,e⟩
  | dT kvs=>obtain⟨_,_,_,_,o,_,_,e,_⟩:=x;exact⟨o,e⟩
  | set S n=>obtain⟨o,_,_,_,e,_⟩:=x;exact⟨o,e⟩
  | ins C dx fs=>obtain⟨_,_,_,e,_⟩:=x;exact⟨_,e⟩
  | ext φ=>obtain⟨_,⟨_,e⟩,_⟩:=x;exact⟨_,e⟩
  | _=>exact dF mu
 obtain⟨od,e⟩:=ex
 have new:i5 X.prog X.w (upd H d (.frz od u)) s.heap d (.frz od u):=by
  refine⟨e,x.L0 (fun b v _ q=>q) (fun b q=>?_) fun b xs q=>?_⟩
  ·rw[aN (fun z=>by rw[z,h] at q;cases q;exact mu)];exact q
  ·rw[aN (fun z=>by rw[z,h] at q;cases q;exact mu)];exact q
 exact⟨od,I.write (x:=d) (e:=d) (t':=s.toks) (h':=s.heap) (by rw[h];exact mu) (.inl rfl) (fun b v _ q=>q) ⟨od,e⟩ new⟩
theorem Inv.Rg {d:Addr}{u:HO} (I:Inv X pins σ H s) (h:H d=some u) (mu:Mut (some u)):∀ o' u',X.H_0 d≠some (.frz o' u'):=fun o' u' e=>by
 have q:=I.base.BG d o' u' e
 rw[h] at q
 cases q
 exact mu
theorem Inv.unlock {d:Addr}{od:Obj}{u:HO} (I:Inv X pins σ H s) (h:H d=some (.frz od u)) (hn:∀ o' u',X.H_0 d≠some (.frz o' u')):Inv X pins σ (upd H d u) s:=by
 have neH:∀ b o,H b=some o→(∀ o' u',o≠.frz o' u')→b≠d:=fun b o e hne z=>by
  rw[z,h] at e
  cases e
  exact hne _ _ rfl
 have neN:∀ b,H b=none→b≠d:=fun b e z=>by rw[z,h] at e;cases e
 refine⟨I.ok,I.os,I.bare,⟨I.base.keep,I.base.slot,fun b o e n hx=>?_,I.base.there,fun b xs e=>?_,fun b o x e=>?_,fun b ps e=>?_⟩,I.loc,I.cell,?_,fun x c e=>?_,fun p hp=>?_,fun b o e=>?_,I.len⟩
 ·rw[aN (neN b (I.base.free b o e n hx))];exact I.base.free b o e n hx
 ·have q:=I.base.D2 b xs e
  rw[aN (neH b _ q (fun _ _ z=>nomatch z))];exact q
 ·have q:=I.base.BG b o x e
  rw[aN (fun z=>by rw[z] at e;exact hn _ _ e)];exact q
 ·obtain⟨m,q⟩:=I.base.D6 b ps e
  exact⟨m,by rw[aN (neH b _ q (fun _ _ z=>nomatch z))];exact q⟩
 ·rw[aN (neN _ I.free)];exact I.free
 ·rw[aN (neN c (I.rG x c e))];exact I.rG x c e
 ·obtain⟨e,n,r⟩:=I.pin p hp
  exact⟨e,by rw[aN (neN _ n)];exact n,r⟩
 ·by_cases hb:b=d
  ·rw[hb,aE] at e
   cases e
   rw[hb]
   obtain⟨_,x⟩:=I.hok d _ h
   exact x.L0 (fun c v _ q=>q) (fun c q=>by rw[aN (neH c _ q (fun _ _ z=>nomatch z))];exact q) fun c xs q=>by rw[aN (neH c _ q (fun _ _ z=>nomatch z))];exact q
  ·rw[aN hb] at e
   exact(I.hok b o e).L0 (fun c v _ q=>q) (fun c q=>by rw[aN (neH c _ q (fun _ _ z=>nomatch z))];exact q) fun c xs q=>by rw[aN (neH c _ q (fun _ _ z=>nomatch z))];exact q
end
def YS (t:TS):TS:=fun D σ H=>∃ d u,H d=some u∧Mut (some u)∧∀ od,t ⟨fun σ' H'=>H' d=some (.frz od u)∧D.nx σ' (upd H' d u),fun v H'=>H' d=some (.frz od u)∧D.rt v (upd H' d u),fun σ' H'=>H' d=some (.frz od u)∧D.bk σ' (upd H' d u),fun σ' H'=>H' d=some (.frz od u)∧D.ct σ' (upd H' d u)⟩ σ (upd H d (.frz od u))
section
variable {X:Cx}
theorem Q9 {st:Stmt}{t:TS} (h:PS X st t):PS X st (YS t):=by
 intro pins s σ H D I hw
 obtain⟨d,u,hd,mu,hw⟩:=hw
 obtain⟨od,I1⟩:=I.lock hd mu
 refine thn (h pins s σ _ _ I1 (hw od)) fun f s1 q=>?_
 cases f with
 | next=>obtain⟨σ',H',I2,e,q⟩:=q;exact⟨σ',_,I2.unlock e (I.Rg hd mu),q⟩
 | brk=>obtain⟨σ',H',I2,e,q⟩:=q;exact⟨σ',_,I2.unlock e (I.Rg hd mu),q⟩
 | cont=>obtain⟨σ',H',I2,e,q⟩:=q;exact⟨σ',_,I2.unlock e (I.Rg hd mu),q⟩
 | ret v=>obtain⟨x,σ',H',I2,r,e,q⟩:=q;exact⟨x,σ',_,I2.unlock e (I.Rg hd mu),r,q⟩
theorem Qe {tg:Expr}{pins:List (Addr×Obj)}{σ:St}{H:Hp}{s:Shared}{R:It→Hp→Prop}{J:It}{tn:Nat→Heap→Prop}{tk:Nat} (I:Inv X pins σ H s) (o:Obj)
 (T:Turn X.prog X.w X.K tg J [s.heap.objs.size] s.heap.objs.size tn) (st:tn 0 (s.heap.push o)) (q:R J H):PIE X pins σ tg R (.ref s.heap.objs.size) { s with heap:=s.heap.push o,toks:=tk }:=by
 refine⟨s.heap.objs.size,[s.heap.objs.size],tn,J,H,rfl,I.kept fun b ob e=>Heap.get?_push_of_some _ e,T,st,fun b hb=>?_,q⟩
 have e:b=s.heap.objs.size:=by simpa using hb
 subst e
 exact I.UT (aB _) (I.hok.fresh (aB _))
end
def Itc (lo c:Int) (n:Nat):It:=⟨fun i _=>i < n,fun i H x H'=>H'=H∧x=.int (lo+(i:Nat) * c),fun i _=>n≤i⟩
theorem NL {P:Program}{w:World}{K:ai}{tg:Expr} (it:Addr) (lo c:Int) (n:Nat):Turn P w K tg (Itc lo c n) [it] it (fun i h=>IsRangeIter h it (lo+(i:Nat) * c) ((n:Int) - (i:Nat)) c) where
 mem:=by simp
 obj:=fun i h st b hb=>by
  have e:b=it:=by simpa using hb
  subst e
  exact⟨_,st,fun v z=>nomatch z⟩
 keep:=fun i h h' st k=>k it (by simp) _ st
 item:=by
  intro X hP hw hK hc i pins s σ H E I hf st hg
  subst hP hw hK
  obtain⟨f0,f1,f2,f3,f4,f5⟩:=hf it (by simp)
  have W:=Walks.range (prog:=X.prog) (w:=X.w) (I.ok.hd hc) it lo c n
  refine W.item i s _ _ hg st fun v h' tk hv st' kk=>?_
  obtain⟨t,rfl⟩:=hv
  have I1:Inv X pins σ H { s with heap:=h',toks:=tk }:=I.turned (fun b o hb e=>kk b o (by simpa using hb) e) f0 f1 f3 f4 f5
  exact⟨_,rfl,Ls (s:={ s with heap:=h',toks:=tk }) (n:="range_iterator") st' rfl rfl (by decide) ⟨.int (lo+(i:Nat) * c),H,I1,⟨t,rfl⟩,⟨rfl,rfl⟩,st',fun b hb=>(hf b hb).1⟩⟩
 done:=by
  intro X hP hw hK hc i pins s σ H E I hf st hg
  subst hP hw hK
  obtain⟨f0,f1,f2,f3,f4,f5⟩:=hf it (by simp)
  exact wpAny_pyNext_range_end (I.ok.hd hc) st (by have:n≤i:=hg;omega) fun h' eb=>⟨rfl,I.turned (t':=s.toks) (fun b o hb e=>eb b o hb e) f0 f1 f3 f4 f5⟩
 self:=fun A i s Q E st h=>wpAny_pyIter_rangeiter st h
def RgC (i j c:Int) (n:Nat):Prop:=c≠0∧c.natAbs < 1073741824∧Builtin.Range.small i j c=true∧Builtin.Range.rangeSize i j c=n
def Zl (ta:TA):TI:=fun σ H R=>ta σ H fun vs H1=>∃ (i j c:Int) (n:Nat),vs=[.int i,.int j,.int c]∧RgC i j c n∧R (Itc i c n) H1
section
variable {X:Cx}{tg:Expr}
theorem K8 {a b c:Expr}{ta:TA}{p pos:Pos} (hg:Gl X "range") (hm:X.mg "range"=none) (ha:PA X [a,b,c] ta)
 (hs:starEach [a,b,c] X.env=(false,eval a X.env)::starEach [b,c] X.env:=by rfl) (hpl:(backTo pos (starEach [b,c] X.env)).any (·.1)=false:=by rfl):
 PI X tg (.Call (.Name "range" p) [a,b,c] [] pos) (Zl ta):=by
 intro pins s σ H R I h
 refine Call_ (Iz I hg hm boot_range (jR (thn (ha pos pins s σ H _ I h) fun us s1 ⟨vs,H1,I1,r1,q1⟩=>?_) hs hpl))
 obtain⟨i,j,k,n,e,⟨c0,c1,c2,c3⟩,q⟩:=q1
 subst e
 cases r1 with
 | cons r rr=>
   cases rr with
   | cons r' rr=>
     cases rr with
     | cons r'' rr=>
       cases rr
       obtain⟨t,rfl⟩:=r
       obtain⟨t',rfl⟩:=r'
       obtain⟨t'',rfl⟩:=r''
       refine call_range_3 c0 ?_ (.inl (PyProof.noPylong_small c1))
       refine wpAny_pyIter_range (IsRange.new ..) c2 ?_
       have I2:Inv X pins σ H1 { s1 with heap:=s1.heap.push { cls:=.type "range",data:=.fields #[.int i t,.int j t',.int k t''] } }:=I1.kept (t':=s1.toks) fun b o e=>Heap.get?_push_of_some _ e
       refine Qe (tk:=s1.toks) I2 _ (NL _ i k n) ?_ q
       have e1:i+((0:Nat):Int) * k=i:=by simp
       have e2:(n:Int) - ((0:Nat):Int)=Builtin.Range.rangeSize i j k:=by rw[c3];simp
       show IsRangeIter _ _ (i+((0:Nat):Int) * k) ((n:Int) - ((0:Nat):Int)) k
       rw[e1,e2]
       exact Heap.get?_push_size _ rfl
end
section
variable {X:Cx}{tg:Expr}
end
section
variable {prog:Program}{w:World}{A:Around}{E:Value→Shared→Prop}{s:Shared}
theorem Lk {d:Addr}{o:Obj}{es:Array DictEntry}{ep:Nat}{Q:Value→Shared→Prop} (hd:(d == sysModules)=false) (ho:s.heap.get? d=some o) (hc:o.ExactDict) (uN:o.data=.dict es ep)
 (hQ:Q (.ref s.heap.objs.size) { s with heap:=s.heap.push { cls:=.type "dict_keyiterator",data:=.fields #[.ref d,.int 0 0,.int es.size 0,.int ep 0] } }):
 wpAny (model prog w) A (pyIter (.ref d)) Q E s:=by
 have hT:s.TypeIs (.ref d) "dict":=⟨o,ho,hc.1⟩
 refine wpAny_pyIter_slot hT F.slot_dict_iter (tN F.slot_dict_iter hT F.entry_dict_iter ?_ (F.args_dict_iter_1 _))
 unfold Builtin.«dict.__iter__»
 refine ao ?_
 unfold Builtin.Dict.dictSlotNone
 refine ao (DU hT ?_)
 show wpAny _ _ (pure (Value.ref d)) _ _ s
 refine aS ?_
 show wpAny _ _ (Builtin.Dict.showsAll d >>= _) _ _ s
 unfold Builtin.Dict.showsAll
 rw[if_neg (by rw[hd];exact aZ)]
 refine ao (aS ?_)
 refine ao (wpAny_dictEntries ho uN ?_)
 refine ao (wpAny_dictEpoch ho uN ?_)
 refine ao (gY (aS ⟨_,rfl,"dict_keyiterator",_,⟨_,Heap.get?_push_size _ rfl,rfl⟩,F.slot_dict_keyiterator_next.lookup,?_⟩))
 simpa [rawInt] using hQ
theorem J9 {it d:Addr}{i n ep:Nat}{od:Obj}{es:Array DictEntry}{en:DictEntry}{Q:Option Value→Shared→Prop} (hit:s.heap.IsKeyIter it d i n ep) (hod:s.heap.get? d=some od) (hdd:od.data=.dict es ep)
 (hsz:es.size=n) (hx:es[i]?=some en) (hQ:∀ h',h'.IsKeyIter it d (i+1) n ep→Heap.SameBut it s.heap h'→Q (some en.key) { s with heap:=h' }):wpAny (model prog w) A (pyNext (.ref it)) Q E s:=by
 obtain⟨o,ho,hc,hd⟩:=id hit
 unfold pyNext
 refine ao (wpAny_attempt (AR (name:=Str.ofString "__next__") hit.typeIs F.slot_dict_keyiterator_next
  (tN F.slot_dict_keyiterator_next hit.typeIs F.entry_dict_keyiterator_next ?_ (F.args_dict_keyiterator_next_1 _))))
 refine ao (aS ?_)
 refine ao ?_
 refine ao ?_
 first | refine ao (lq hit.typeIs (aS ?_)) | refine ao (o8 hit.typeIs (aS ?_))
 refine ao (wpAny_fieldsOf ho hd ?_)
 have X2:Builtin.Dict_items.ownsTuple "dict_keyiterator"=false:=by decide
 simp only[X2,ia,if_false]
 show wpAny _ _ (if (Value.ref d == Value.none)=true then _ else _) _ _ s
 rw[if_neg (show ¬ ((Value.ref d == Value.none)=true) from aZ)]
 refine ao (aS ?_)
 refine ao (wpAny_dictEntries hod hdd ?_)
 rw[if_neg (by rw[hsz];simp)]
 refine ao (aS ?_)
 refine ao (wpAny_dictEpoch hod hdd ?_)
 rw[if_neg (by simp)]
 refine aS ?_
 obtain⟨acx,hen⟩:=Array.getElem?_eq_some_iff.mp hx
 simp only[show ¬ ((i:Int) < 0) from by omega,if_false,cc,Array.getElem?_eq_getElem acx]
 refine ao ?_
 first | refine ao (lq hit.typeIs (aS ?_)) | refine ao (o8 hit.typeIs (aS ?_))
 refine ao (wpAny_isOneOf_keyiter hit.typeIs ?_)
 show wpAny _ _ (setField (.ref it) 1 (rawInt ((i:Int)+1)) >>= _) _ _ s
 refine ao (wpAny_setField ho hd (by simp) ?_)
 have ZT:(s.heap.update it (Obj.mapFields (·.setIfInBounds 1 (rawInt ((i:Int)+1))))).IsKeyIter it d (i+1) n ep:=
  ⟨_,Heap.get?_update_self _ ho (Obj.isFreed_of_fields (Obj.data_mapFields hd _)),(Obj.cls_mapFields ..).trans hc,by rw[Obj.data_mapFields hd];simp[rawInt]⟩
 refine ao (jP ?_)
 refine ao (wpAny_isOneOf_keyiter (s:={ s with heap:=s.heap.update it (Obj.mapFields (·.setIfInBounds 1 (rawInt ((i:Int)+1)))) }) ZT.typeIs ?_)
 show wpAny _ _ (pure es[i].key) _ _ _
 rw[hen]
 exact aS (aS ⟨_,rfl,aS (hQ _ ZT (Heap.SameBut.update ..))⟩)
theorem CP {it d:Addr}{i n ep:Nat}{od:Obj}{es:Array DictEntry}{Q:Option Value→Shared→Prop} (hh:A.handled=none) (hit:s.heap.IsKeyIter it d i n ep) (hod:s.heap.get? d=some od) (hdd:od.data=.dict es ep)
 (hsz:es.size=n) (hge:n≤i) (hQ:∀ h',Heap.ExtBut it s.heap h'→Q none { s with heap:=h' }):wpAny (model prog w) A (pyNext (.ref it)) Q E s:=by
 obtain⟨o,ho,hc,hd⟩:=id hit
 unfold pyNext
 refine ao (wpAny_attempt (AR (name:=Str.ofString "__next__") hit.typeIs F.slot_dict_keyiterator_next
  (tN F.slot_dict_keyiterator_next hit.typeIs F.entry_dict_keyiterator_next ?_ (F.args_dict_keyiterator_next_1 _))))
 refine ao (aS ?_)
 refine ao ?_
 refine ao ?_
 first | refine ao (lq hit.typeIs (aS ?_)) | refine ao (o8 hit.typeIs (aS ?_))
 refine ao (wpAny_fieldsOf ho hd ?_)
 have X2:Builtin.Dict_items.ownsTuple "dict_keyiterator"=false:=by decide
 simp only[X2,ia,if_false]
 show wpAny _ _ (if (Value.ref d == Value.none)=true then _ else _) _ _ s
 rw[if_neg (show ¬ ((Value.ref d == Value.none)=true) from aZ)]
 refine ao (aS ?_)
 refine ao (wpAny_dictEntries hod hdd ?_)
 rw[if_neg (by rw[hsz];simp)]
 refine ao (aS ?_)
 refine ao (wpAny_dictEpoch hod hdd ?_)
 rw[if_neg (by simp)]
 refine aS ?_
 have acF:es.size≤i:=by rw[hsz];exact hge
 simp only[show ¬ ((i:Int) < 0) from by omega,if_false,cc,yf acF]
 refine ao ?_
 first | refine ao (lq hit.typeIs (aS ?_)) | refine ao (o8 hit.typeIs (aS ?_))
 show wpAny _ _ (setField (.ref it) 0 .none >>= _) _ _ s
 refine ao (wpAny_setField ho hd (by simp) ?_)
 show wpAny _ _ (newExc (.type "StopIteration") [] >>= _) _ _ _
 refine ao ?_
 simp only[newExc,newTuple]
 refine ao (gY ?_ (by size_fits))
 refine ao (m:=firstArgMember _ _) (wpAny_of_eq (a:=Value.none) (by first | rfl | (simp only[firstArgMember];rfl)) ?_)
 refine gY ?_ (by size_fits)
 simp only[raiseNew]
 refine ao (wpAny_handled ?_)
 rw[show A.in1.handled=none from hh]
 refine ao (aS (wpAny_throw ?_))
 refine ao (wpAny_isInstance (T:="StopIteration") (b:=true) ⟨_,Heap.get?_push_size _ rfl,rfl⟩ isSubtype_stop ?_)
 exact aS (hQ _ (((Heap.SameBut.update ..).extBut.push _).push _))
end
theorem XJ {κ:Type}{kvs:List (κ×V)}{vs:List (κ×Value)} (h:KV kvs vs):∀ {i:Nat}{k:κ}{v:V},kvs[i]?=some (k,v)→∃ u,vs[i]?=some (k,u)∧RelV v u:=by
 unfold KV at h
 induction h with
 | nil=>intro i k v e;simp at e
 | @cons a b l₁ l₂ r t ih=>
   intro i k v e
   cases i with
   | zero=>
     simp only[xZ,Option.some.injEq] at e
     subst e
     refine⟨b.2,?_,r.2⟩
     simp only[xZ]
     exact congrArg some (Prod.ext r.1.symm rfl)
   | succ j=>
     simp only[List.getElem?_cons_succ] at e ⊢
     exact ih e
theorem HK {α β:Type}{G:α→β→Prop}{l₁:List α}{l₂:List β} (h:Paired G l₁ l₂):∀ {i:Nat}{a:α},l₁[i]?=some a→∃ b,l₂[i]?=some b∧G a b:=by
 induction h with
 | nil=>intro i a e;simp at e
 | @cons a b l₁ l₂ r t ih=>
   intro i a' e
   cases i with
   | zero=>
     simp only[xZ,Option.some.injEq] at e
     subst e
     exact⟨b,rfl,r⟩
   | succ j=>
     simp only[List.getElem?_cons_succ] at e ⊢
     exact ih e
theorem To {k:Key}{u:Value} (h:vp k u=true):RelV (kV k) u:=by
 rcases gv h with ⟨i,t,rfl,rfl⟩ | ⟨x,t,rfl,rfl⟩
 ·exact⟨t,rfl⟩
 ·exact⟨t,rfl⟩
section
variable {X:Cx}{pins:List (Addr×Obj)}{σ:St}{H:Hp}{s:Shared}{d:Addr}{o:Obj}
theorem Inv.Yn {kvs:List (Key×V)} (I:Inv X pins σ H s) (h:H d=some (.frz o (.dK kvs))):
 (d == sysModules)=false∧s.heap.get? d=some o∧o.ExactDict∧∃ (es:Array DictEntry) (ep:Nat) (vs:List (Key×Value)),o.data=.dict es ep∧es.size=kvs.length∧KV kvs vs∧s.heap.DictAt (da X.prog X.w) d vs ep:=by
 obtain⟨hd,z,hs,vs,kv,o',es,ep,ho,hx,hdt,r⟩:=I.hok d _ h
 rw[hd] at ho
 cases ho
 refine⟨hs,hd,hx,es,ep,vs,hdt,?_,kv,o,es,hd,hx,hdt,r⟩
 have l1:=r.2.1.length
 have l2:kvs.length=vs.length:=Paired.length kv
 rw[tM] at l1
 omega
theorem Inv.Ym {kvs:List (List Key×V)} (I:Inv X pins σ H s) (h:H d=some (.frz o (.dT kvs))):
 (d == sysModules)=false∧s.heap.get? d=some o∧o.ExactDict∧∃ (es:Array DictEntry) (ep:Nat),o.data=.dict es ep∧es.size=kvs.length∧
   ∀ (i:Nat) (k:List Key) (v:V),kvs[i]?=some (k,v)→∃ (en:DictEntry) (q:Addr),es[i]?=some en∧en.key=.ref q∧H q=some (.tup (k.map kV)):=by
 obtain⟨hd,z,hs,xs,pr,o',es,ep,ho,hx,hdt,he,_⟩:=I.hok d _ h
 rw[hd] at ho
 cases ho
 refine⟨hs,hd,hx,es,ep,hdt,?_,fun i k v e=>?_⟩
 ·have l1:es.size=xs.length:=size_of_entries he
  have l2:kvs.length=xs.length:=Paired.length pr
  omega
 ·obtain⟨b,hb,e1,e2,_⟩:=HK pr e
  have q:=entry_at he i
  rw[hb] at q
  exact⟨_,b.2.1,q,rfl,e2⟩
end
def Itk (d:Addr) (o:Obj) (kvs:List (Key×V)):It:=
 ⟨fun i H=>H d=some (.frz o (.dK kvs))∧i < kvs.length,fun i H x H'=>H'=H∧∃ k v,kvs[i]?=some (k,v)∧x=kV k,fun i H=>H d=some (.frz o (.dK kvs))∧kvs.length≤i⟩
def Vn (d:Addr) (o:Obj) (kvs:List (List Key×V)):It:=
 ⟨fun i H=>H d=some (.frz o (.dT kvs))∧i < kvs.length,fun i H x H'=>H'=H∧∃ (k:List Key) (v:V) (q:Addr),kvs[i]?=some (k,v)∧x=.ref q∧H q=some (.tup (k.map kV)),fun i H=>H d=some (.frz o (.dT kvs))∧kvs.length≤i⟩
theorem GR {o:Obj}{es es':Array DictEntry}{ep ep':Nat} (h:o.data=.dict es ep) (h':o.data=.dict es' ep'):es'=es∧ep'=ep:=by
 rw[h] at h'
 cases h'
 exact⟨rfl,rfl⟩
section
variable {P:Program}{w:World}{K:ai}{tg:Expr}{d:Addr}{o:Obj}{es:Array DictEntry}{ep:Nat}
theorem RV {kvs:List (Key×V)} (it:Addr) (hod:o.data=.dict es ep):Turn P w K tg (Itk d o kvs) [it] it (fun i h=>h.IsKeyIter it d i kvs.length ep) where
 mem:=by simp
 obj:=fun i h st b hb=>by
  have e:b=it:=by simpa using hb
  subst e
  obtain⟨oi,e,c,dd⟩:=st
  exact⟨oi,e,fun v z=>by rw[dd] at z;cases z⟩
 keep:=fun i h h' st k=>st.at fun oi e=>k it (by simp) oi e
 item:=by
  intro X hP hw hK hc i pins s σ H E I hf st hg
  subst hP hw hK
  obtain⟨hd,hi⟩:=hg
  obtain⟨f0,f1,f2,f3,f4,f5⟩:=hf it (by simp)
  obtain⟨hs,hgd,hx,es',ep',vs,hdt,hsz,kv,hm⟩:=I.Yn hd
  obtain⟨rfl,rfl⟩:=GR hod hdt
  obtain⟨⟨k,v⟩,hkv⟩:∃ p,kvs[i]?=some p:=⟨kvs[i],aK hi⟩
  obtain⟨u,hu,ru⟩:=XJ kv hkv
  have hl:kvs.length=vs.length:=Paired.length kv
  rw[hl] at st
  refine wpAny_pyNext_dict_item st hm hu fun key h' UB st' sb=>?_
  have I1:Inv X pins σ H { s with heap:=h' }:=I.turned (t':=s.toks) (fun b ob hb e=>(sb.2 b hb).trans e) f0 f1 f3 f4 f5
  obtain⟨oi,e,c,dd⟩:=id st'
  refine⟨key,rfl,Ls (s:={ s with heap:=h' }) e c dd (by decide) ⟨kV k,H,I1,To (show vp k key=true from UB),⟨rfl,k,v,hkv,rfl⟩,?_,fun b hb=>(hf b hb).1⟩⟩
  show h'.IsKeyIter it d (i+1) kvs.length _
  rw[hl]
  exact st'
 done:=by
  intro X hP hw hK hc i pins s σ H E I hf st hg
  subst hP hw hK
  obtain⟨hd,hi⟩:=hg
  obtain⟨f0,f1,f2,f3,f4,f5⟩:=hf it (by simp)
  obtain⟨hs,hgd,hx,es',ep',vs,hdt,hsz,kv,hm⟩:=I.Yn hd
  obtain⟨rfl,rfl⟩:=GR hod hdt
  exact CP (I.ok.hd hc) st hgd hdt hsz hi fun h' eb=>⟨rfl,I.turned (t':=s.toks) (fun b ob hb e=>eb b ob hb e) f0 f1 f3 f4 f5⟩
 self:=fun A i s Q E st h=>wpAny_pyIter_keyiter st h
theorem PR {kvs:List (List Key×V)} (it:Addr) (hod:o.data=.dict es ep):Turn P w K tg (Vn d o kvs) [it] it (fun i h=>h.IsKeyIter it d i kvs.length ep) where
 mem:=by simp
 obj:=fun i h st b hb=>by
  have e:b=it:=by simpa using hb
  subst e
  obtain⟨oi,e,c,dd⟩:=st
  exact⟨oi,e,fun v z=>by rw[dd] at z;cases z⟩
 keep:=fun i h h' st k=>st.at fun oi e=>k it (by simp) oi e
 item:=by
  intro X hP hw hK hc i pins s σ H E I hf st hg
  subst hP hw hK
  obtain⟨hd,hi⟩:=hg
  obtain⟨f0,f1,f2,f3,f4,f5⟩:=hf it (by simp)
  obtain⟨hs,hgd,hx,es',ep',hdt,hsz,ent⟩:=I.Ym hd
  obtain⟨rfl,rfl⟩:=GR hod hdt
  obtain⟨⟨k,v⟩,hkv⟩:∃ p,kvs[i]?=some p:=⟨kvs[i],aK hi⟩
  obtain⟨en,q,hen,UB,hq⟩:=ent i k v hkv
  refine J9 st hgd hdt hsz hen fun h' st' sb=>?_
  have I1:Inv X pins σ H { s with heap:=h' }:=I.turned (t':=s.toks) (fun b ob hb e=>(sb.2 b hb).trans e) f0 f1 f3 f4 f5
  obtain⟨oi,e,c,dd⟩:=id st'
  exact⟨en.key,rfl,Ls (s:={ s with heap:=h' }) e c dd (by decide) ⟨.ref q,H,I1,UB,⟨rfl,k,v,q,hkv,rfl,hq⟩,st',fun b hb=>(hf b hb).1⟩⟩
 done:=by
  intro X hP hw hK hc i pins s σ H E I hf st hg
  subst hP hw hK
  obtain⟨hd,hi⟩:=hg
  obtain⟨f0,f1,f2,f3,f4,f5⟩:=hf it (by simp)
  obtain⟨hs,hgd,hx,es',ep',hdt,hsz,ent⟩:=I.Ym hd
  obtain⟨rfl,rfl⟩:=GR hod hdt
  exact CP (I.ok.hd hc) st hgd hdt hsz hi fun h' eb=>⟨rfl,I.turned (t':=s.toks) (fun b ob hb e=>eb b ob hb e) f0 f1 f3 f4 f5⟩
 self:=fun A i s Q E st h=>by
  refine wpAny_pyIter_slot st.typeIs F.slot_dict_keyiterator_iter (tN F.slot_dict_keyiterator_iter st.typeIs F.entry_dict_keyiterator_iter ?_ (F.args_dict_keyiterator_iter_1 _))
  show wpAny _ _ (ret (.ref it)) _ _ s
  exact aS ⟨_,rfl,"dict_keyiterator",_,st.typeIs,F.slot_dict_keyiterator_next.lookup,h⟩
end
def Zo (td:TE):TI:=fun σ H R=>td σ H fun x H1=>∃ d o,x=.ref d∧((∃ kvs,H1 d=some (.frz o (.dK kvs))∧R (Itk d o kvs) H1)∨∃ kvs,H1 d=some (.frz o (.dT kvs))∧R (Vn d o kvs) H1)
section
variable {X:Cx}{tg e:Expr}{td:TE}{apos vE:Pos}
theorem Rc (he:PE X e td):PI X tg e (Zo td):=by
 intro pins s σ H R I h
 refine thn (he pins s σ H _ I h) fun u s1 ⟨x,H1,I1,rx,d,o,ex,q⟩=>?_
 subst ex
 obtain rfl:u=Value.ref d:=rx
 rcases q with ⟨kvs,hd,q⟩ | ⟨kvs,hd,q⟩
 ·obtain⟨hs,hgd,hx,es,ep,vs,hdt,hsz,kv,hm⟩:=I1.Yn hd
  refine Lk hs hgd hx hdt (Qe (tk:=s1.toks) I1 _ (RV _ hdt) ⟨_,Heap.get?_push_size _ rfl,rfl,?_⟩ q)
  rw[hsz]<;>rfl
 ·obtain⟨hs,hgd,hx,es,ep,hdt,hsz,ent⟩:=I1.Ym hd
  refine Lk hs hgd hx hdt (Qe (tk:=s1.toks) I1 _ (PR _ hdt) ⟨_,Heap.get?_push_size _ rfl,rfl,?_⟩ q)
  rw[hsz]<;>rfl
end
end L2
section
namespace ac4
open PySem PyProof.Rows
end ac4
end
section
namespace TL
open PySem PySem.Builtin PySem.Builtin.Str PySem.StrLaws
end TL
end
namespace L2
open PySem PySem.Spec PyProof.Rows
section
variable {X:Cx}{pins:List (Addr×Obj)}{σ:St}{H:Hp}{s:Shared}{Q:VK}
end
section
variable {X:Cx}
end
section
variable {X:Cx}{o e:Expr}{to te:TE}
end
end L2
namespace L2
open PySem PySem.Spec PyProof.Rows
section
variable {X:Cx}
end
end L2
namespace Att
open PySem PySem.W PySem.Calls PyProof.Rows
section
variable {prog:Program}{w:World}{A:Around}{E:Value→Shared→Prop}{s:Shared}{K:Frag}
end
end Att
namespace L2
open PySem PySem.Spec PyProof.Rows
end L2
namespace L2
open PySem PySem.Spec PyProof.Rows
abbrev KOf {K:ai}{h:Heap} (_:K.In h):ai:=K
end L2
namespace L2
open PySem PySem.Spec PyProof.Rows
def inClass (s:Stmt) (j:Nat):Stmt:=match s with
 | .ClassDef _ _ _ body _ _ _ _ _ _ _=>body.getD j (.Pass ⟨0,0,0,0⟩)
 | _=>.Pass ⟨0,0,0,0⟩
def GS (s:Stmt):Arguments:=match s with
 | .FunctionDef _ a _ _ _ _ _ _ _ _=>a
 | _=>{ posonlyargs:=[],args:=[],vararg:=none,kwonlyargs:=[],kw_defaults:=[],kwarg:=none,defaults:=[] }
def zj (s:Stmt):List Stmt:=match s with
 | .FunctionDef _ _ b _ _ _ _ _ _ _=>b
 | _=>[]
def aL (s:Stmt):Scope:=match s with
 | .FunctionDef _ _ _ _ _ _ sc _ _ _=>sc
 | _=>{ kind:=.function,names:=[],isGenerator:=false,isCoroutine:=false }
abbrev CX0:CXT:=fun _ _ _ _ _ _=>False
abbrev E0:XK:=fun _ _ _=>False
theorem bw {X:Cx}:Passes CX0 X E0:=fun _ _ _ _ _ _ _ h=>h.elim
structure Fun (K:ai) (x qual:Str) (st:Stmt) (f:Addr) (fd:FuncData):Prop where
 ex:∃ (oc:Value) (od:Option Addr) (kV doc pm:Value) (an:Option Addr) (cdv ct:Value) (osl:Array (Option Value)),
  fd=sE x qual (GS st) (zj st) (aL st) .none kV doc pm an cdv ct∧K.lookup f=some ⟨oc,od,.func fd,osl⟩∧PySem.W.codeIn K cdv qual=true
 kp:oT K (.ref f)=true
section
variable {P:Program}{w:World}{K:ai}{mg:Str→Option Value}{base:Heap}
theorem Fun.ok {x qual:Str}{st:Stmt}{f:Addr}{fd:FuncData}{N ps:List Str}{k:Nat}{sp:Sp} (F:Fun K x qual st f fd) (S:bb N ps (aL st)) (len:∀ vs H Q E,sp vs H Q E→vs.length=ps.length)
 (OR:∀ (cdv:Value) (A:Around) (outer:List Env) (s:Shared) (H:Hp) (vs:List V) (Q:VK) (E:XK),oW k (A.deeper (envOfC qual (aL st) s.heap.objs.size f cdv))→sp vs H Q E→
   ∃ t,PSs (tq CX0 P w K mg base N qual (aL st) f cdv A outer s H E).nox (zj st) t∧t { nx:=fun _ H'=>Q .non H',rt:=Q } (start N vs) H):cI P w K mg base CX0 (k+1) f fd ps sp:=by
 obtain⟨oc,od,kV,doc,pm,an,cdv,ct,osl,rfl,lk,hcd⟩:=F.ex
 refine WY lk hcd S len fun A outer s H vs Q E hr hsp=>?_
 obtain⟨t,h,q⟩:=OR cdv A outer s H vs Q E hr hsp
 exact⟨t,h.nox,q⟩
theorem Fun.binds {x qual:Str}{st:Stmt}{f:Addr}{fd:FuncData}{ps:List Str} (F:Fun K x qual st f fd)
 (h:∀ (kV doc pm:Value) (an:Option Addr) (cdv ct:Value) (us:List Value),us.length=ps.length→bindArgs (sE x qual (GS st) (zj st) (aL st) .none kV doc pm an cdv ct) ⟨us,[]⟩=pure (ps.zip us)):Binds K fd ps []:=by
 obtain⟨oc,od,kV,doc,pm,an,cdv,ct,osl,rfl,lk,hcd⟩:=F.ex
 exact .all (h kV doc pm an cdv ct)
theorem fun_mk {x qual:Str}{st:Stmt}{f:Addr}{oc:Value}{od an:Option Addr}{osl:Array (Option Value)}{kV doc pm cdv ct:Value} (l:K.lookup f=some ⟨oc,od,.func (sE x qual (GS st) (zj st) (aL st) .none kV doc pm an cdv ct),osl⟩)
 (c:PySem.W.codeIn K cdv qual=true) (k:oT K (.ref f)=true):Fun K x qual st f (sE x qual (GS st) (zj st) (aL st) .none kV doc pm an cdv ct):=⟨⟨oc,od,kV,doc,pm,an,cdv,ct,osl,rfl,l,c⟩,k⟩
end
theorem AF {A:Around}{k:Nat} (hr:oW k A):A.units+1 < cLine:=kP (Nat.add_le_add_left (by decide:1≤64) _) hr.units
section
variable {X:Cx}
theorem pv (i:Nat) {x:Str}{pos:Pos} (hN:X.N[i]?=some x:=by rfl) (hv:Vis X.env.scope x:=by first | exact ba rfl | exact Or.inr (ba rfl) | exact Or.inr (Or.inr rfl)) (hd:(x == ("__debug__" :Str))=false:=by decide)
 (hcd:(x == ("__classdict__" :Str))=false:=by decide):PE X (.Name x pos) (Vy i):=Xx hN hv hd hcd
end
theorem z0 {A B:Prop} (h:B):if false=true then A else B:=by
 rw[if_neg aZ]
 exact h
theorem uL {A B:Prop} (h:A):if true=true then A else B:=by
 rw[if_pos rfl]
 exact h
theorem qx {c A B:Prop} [Decidable c] (h1:c→A) (h2:¬ c→B):if c then A else B:=by
 by_cases h:c
 ·rw[if_pos h]
  exact h1 h
 ·rw[if_neg h]
  exact h2 h
def bg (H H':Hp):Prop:=∀ b o,H b=some o→H' b=some o
theorem bg.refl (H:Hp):bg H H:=fun _ _ h=>h
theorem bg.trans {H H1 H2:Hp} (a:bg H H1) (b:bg H1 H2):bg H H2:=fun c o h=>b c o (a c o h)
theorem bg.free {H H':Hp} (e:bg H H') {l:Addr} (h:H' l=uR):H l=uR:=by
 cases q:H l with
 | none=>rfl
 | some o=>
   rw[e l o q] at h
   cases h
theorem bg.seq {K:ai}{H H':Hp}{a:Addr}{xs:List V} (e:bg H H') (h:SqL K H a xs):SqL K H' a xs:=by
 rcases h with (h | ⟨o,h⟩) | h
 ·exact .inl (.inl (e _ _ h))
 ·exact .inl (.inr ⟨o,e _ _ h⟩)
 ·exact .inr h
section
variable {κ:Type} [DecidableEq κ]
theorem Vv {kvs:List (κ×V)}{k:κ}{v:V} (h:rU kvs k=some v):k∈kvs.map (·.1):=by
 have q:(kvs.any fun kv=>decide (kv.1=k))=true:=by
  rw[yi,h]
  all_goals rfl
 obtain⟨p,hp,e⟩:=jO.mp q
 exact ay.mpr ⟨p,hp,of_decide_eq_true e⟩
theorem ua:∀ {l:List κ}{k:κ},l.Nodup→¬ k∈l→(l++[k]).Nodup
 | [],k,_,_=>by simp
 | a::r,k,h,hk=>by
   obtain⟨h1,h2⟩:=c7.mp h
   show(a::(r++[k])).Nodup
   refine c7.mpr ⟨fun m=>?_,ua h2 fun m=>hk (aC.mpr (Or.inr m))⟩
   rcases az.mp m with q | q
   ·exact h1 q
   ·exact hk (aC.mpr (ba (ag.mp q).symm))
end
theorem at_of {xs:List V}{z:Int}{j:Nat}{v:V} (e:z=(j:Int)) (h:xs[j]?=some v):atI xs z=some v:=by
 rw[e]
 exact aF h
theorem Zh {α:Type}{l:List α} (hN:l.Nodup) {i j:Nat}{x:α} (a:l[i]?=some x) (b:l[j]?=some x):i=j:=by
 obtain⟨h1,e1⟩:=aP.mp a
 obtain⟨h2,e2⟩:=aP.mp b
 exact(List.getElem_inj hN).mp (e1.trans e2.symm)
theorem bg.made {H H1:Hp}{x dx C:Addr} (nx:H x=uR) (nd:H dx=uR) (k:∀ b o,(upd (upd H dx (.own x)) x (.ins C dx [])) b=some o→b≠x→H1 b=some o):bg H H1:=fun b o e=>
 k b o (by rw[aN (bf e nx),aN (bf e nd)];exact e) (bf e nx)
end L2
section
namespace L2
open PySem PySem.Spec PyProof.Rows
open PySem.W (WData Codec OpenSpec Well WellAll ReadsW ReadsAllW)
mutual
inductive Dw (K:ai) (H:Hp):V→WData→Prop
 | non:Dw K H .non .none
 | bl (b:Bool):Dw K H (.bl b) (.bool b)
 | int (i:Int):Dw K H (.int i) (.int i)
 | str (x:Str):Dw K H (.str x) (.str x)
 | byt (b:Array UInt8):Dw K H (.byt b) (.bytes b.toList)
 | lst {a:Addr}{xs:List V}{ds:List WData}:SqL K H a xs→xE K H xs ds→Dw K H (.ref a) (.list ds)
 | tup {a:Addr}{xs:List V}{ds:List WData}:SqT K H a xs→xE K H xs ds→Dw K H (.ref a) (.tuple ds)
inductive xE (K:ai) (H:Hp):List V→List WData→Prop
 | nil:xE K H [] []
 | cons {v:V}{vs:List V}{d:WData}{ds:List WData}:Dw K H v d→xE K H vs ds→xE K H (v::vs) (d::ds)
end
theorem Ru {K:ai}{H:Hp}:∀ ns:List Int,xE K H (ns.map V.int) (ns.map WData.int)
 | []=>.nil
 | n::r=>.cons (.int n) (Ru r)
theorem Rl {K:ai}{H:Hp}:∀ (ns:List Int) (xs:List V),xE K H xs (ns.map WData.int)→xs=ns.map V.int
 | [],xs,h=>by
   cases h
   rfl
 | n::r,xs,h=>by
   cases h with
   | cons h1 h2=>
     cases h1
     rw[Rl r _ h2]<;>rfl
section
variable {P:Program}{w:World}{K:ai}{H:Hp}{h:Heap}{R:PySem.W.WRecords}{cl:Str→Option Addr}
theorem Xk {a:Addr}{xs:List V} (hok:HOk P w H h) (KX:K.In h) (q:SqL K H a xs):∃ (its:List Value) (o:Obj) (n:Nat),Vals xs its∧h.get? a=some o∧o.cls=.type "list"∧o.data=.seq its.toArray n:=by
 rcases q with q | ⟨o,its,n,e,hc,_,hd,_,hv⟩
 ·obtain⟨_,its,n,hv,e⟩:=(show i5 P w H h a (.lst xs) from q.ok hok)
  exact⟨its,_,n,hv,e,rfl,rfl⟩
 ·exact⟨its.toList,o,n,hv,KX _ _ e,hc,by simp[hd]⟩
theorem Xj {a:Addr}{xs:List V} (hok:HOk P w H h) (KX:K.In h) (q:SqT K H a xs):∃ (its:List Value) (o:Obj) (n:Nat),Vals xs its∧h.get? a=some o∧o.cls=.type "tuple"∧o.data=.seq its.toArray n:=by
 rcases q with q | ⟨o,its,n,e,hc,hd,_,hv⟩
 ·obtain⟨_,its,hv,o,e,hc,n,hd⟩:=(show i5 P w H h a (.tup xs) from q.ok hok)
  exact⟨its,o,n,hv,e,(aV hc).1,hd⟩
 ·exact⟨its.toList,o,n,hv,KX _ _ e,hc,by simp[hd]⟩
mutual
theorem Dw.reads (hok:HOk P w H h) (KX:K.In h):∀ (d:WData) (v:V) (u:Value),Dw K H v d→RelV v u→∃ as,ReadsW R cl h u d as
 | .none,_,_,x,r=>by
   cases x
   cases r
   exact⟨_,ReadsW.none⟩
 | .bool b,_,_,x,r=>by
   cases x
   cases r
   exact⟨_,ReadsW.bool b⟩
 | .int i,_,_,x,r=>by
   cases x
   obtain⟨t,rfl⟩:=r
   exact⟨_,ReadsW.int i t⟩
 | .str s,_,_,x,r=>by
   cases x
   obtain⟨t,rfl⟩:=r
   exact⟨_,ReadsW.str s t⟩
 | .bytes b,_,_,x,r=>by
   cases x
   obtain⟨t,rfl⟩:=r
   exact⟨_,ReadsW.bytes _ t⟩
 | .list ds,_,_,x,r=>by
   cases x with
   | lst hs ha=>
     cases r
     obtain⟨its,o,n,rv,ho,hc,hd⟩:=Xk hok KX hs
     obtain⟨as,hr⟩:=Dw.readsAll hok KX ds _ its ha rv
     exact⟨_,ReadsW.list ho hc hd hr⟩
 | .tuple ds,_,_,x,r=>by
   cases x with
   | tup hs ha=>
     cases r
     obtain⟨its,o,n,rv,ho,hc,hd⟩:=Xj hok KX hs
     obtain⟨as,hr⟩:=Dw.readsAll hok KX ds _ its ha rv
     exact⟨_,ReadsW.tuple ho hc hd hr⟩
 | .float _,_,_,x,_=>by cases x
 | .dict _,_,_,x,_=>by cases x
 | .bytearray _,_,_,x,_=>by cases x
 | .set _,_,_,x,_=>by cases x
 | .frozenset _,_,_,x,_=>by cases x
 | .obj _ _,_,_,x,_=>by cases x
theorem Dw.readsAll (hok:HOk P w H h) (KX:K.In h):∀ (ds:List WData) (vs:List V) (us:List Value),xE K H vs ds→Vals vs us→∃ as,ReadsAllW R cl h us ds as
 | [],_,_,x,r=>by
   cases x
   cases r
   exact⟨_,ReadsAllW.nil⟩
 | d::ds,_,_,x,r=>by
   cases x with
   | cons h1 h2=>
     cases r with
     | cons r1 r2=>
       obtain⟨as,q1⟩:=Dw.reads hok KX d _ _ h1 r1
       obtain⟨bs,q2⟩:=Dw.readsAll hok KX ds _ _ h2 r2
       exact⟨_,ReadsAllW.cons q1 q2⟩
end
end
mutual
def plW:WData→Bool
 | .none=>true
 | .bool _=>true
 | .int _=>true
 | .str _=>true
 | .bytes _=>true
 | .list xs=>FV xs
 | .tuple xs=>FV xs
 | _=>false
def FV:List WData→Bool
 | []=>true
 | x::r=>plW x && FV r
end
theorem Od {α:Type}{f:α→WData} (h:∀ a,plW (f a)=true):∀ l:List α,FV (l.map f)=true
 | []=>rfl
 | x::r=>by
   show(plW (f x) && FV (r.map f))=true
   rw[h x,Od h r]<;>rfl
theorem yE:∀ (c:Codec) (a:c.denote),plW (c.enc a)=true
 | .unit,_=>rfl
 | .bool,_=>rfl
 | .int _ _,_=>rfl
 | .nat _ _,_=>rfl
 | .u8,_=>rfl
 | .bytes _ _,_=>rfl
 | .text _ _ _ _,_=>rfl
 | .list _ _ c,a=>Od (fun x=>yE c x) a
 | .pair c d,a=>by
   show(plW (c.enc a.1) && (plW (d.enc a.2) && true))=true
   rw[yE c a.1,yE d a.2]<;>rfl
 | .triple c d e,a=>by
   show(plW (c.enc a.1) && (plW (d.enc a.2.1) && (plW (e.enc a.2.2) && true)))=true
   rw[yE c a.1,yE d a.2.1,yE e a.2.2]<;>rfl
 | .option c,none=>rfl
 | .option c,some x=>yE c x
theorem K7:∀ (cs:List Codec) (a:Codec.denoteAll cs),FV (Codec.encAll cs a)=true
 | [],_=>rfl
 | c::cs,a=>by
   show(plW (c.enc a.1) && FV (Codec.encAll cs a.2))=true
   rw[yE c a.1,K7 cs a.2]<;>rfl
theorem AU:∀ {xs:List WData}{d:WData},d∈xs→d.weight≤WData.weightAll xs
 | [],d,h=>absurd h (by simp)
 | x::r,d,h=>by
   show d.weight≤x.weight+1+WData.weightAll r
   rcases aC.mp h with e | m
   ·rw[e]
    omega
   ·have z:=AU m
    omega
def toV:Value→V
 | .none=>.non
 | .bool b=>.bl b
 | .int i _=>.int i
 | .str x _=>.str x
 | .bytes b _=>.byt b
 | .ref a=>.ref a
 | _=>.non
def OkU (A:List Addr):Value→Prop
 | .none=>True
 | .bool _=>True
 | .int _ _=>True
 | .str _ _=>True
 | .bytes _ _=>True
 | .ref a=>a∈A
 | _=>False
theorem OkU.mono {A B:List Addr} (h:∀ a∈A,a∈B):∀ {u:Value},OkU A u→OkU B u:=fun {u} x=>by
 cases u with
 | ref a=>exact h a x
 | none=>trivial
 | bool b=>trivial
 | int i t=>trivial
 | str s t=>trivial
 | bytes b t=>trivial
 | _=>exact dF x
theorem Tn {A:List Addr}{u:Value} (x:OkU A u):RelV (toV u) u:=by
 cases u with
 | ref a=>rfl
 | none=>rfl
 | bool b=>rfl
 | int i t=>exact⟨t,rfl⟩
 | str s t=>exact⟨t,rfl⟩
 | bytes b t=>exact⟨t,rfl⟩
 | _=>exact dF x
theorem uT {A:List Addr}:∀ {vs:List Value},(∀ u∈vs,OkU A u)→Vals (vs.map toV) vs
 | [],_=>.nil
 | u::r,h=>.cons (Tn (h u (aI ..))) (uT fun x hx=>h x (aG _ hx))
def xF (h:Heap) (A:List Addr) (a:Addr):Prop:=∃ vs:List Value,vs.length≤sizeLine∧(∀ u∈vs,OkU A u)∧
 (h.get? a=some { cls:=.type "list",data:=.seq vs.toArray }∨h.get? a=some { cls:=.type "tuple",data:=.seq vs.toArray })
theorem xF.mono {h:Heap}{A B:List Addr}{a:Addr} (k:∀ a∈A,a∈B) (x:xF h A a):xF h B a:=by
 obtain⟨vs,h1,h2,h3⟩:=x
 exact⟨vs,h1,fun u hu=>(h2 u hu).mono k,h3⟩
theorem tY {P:Params}{h:Heap}:∀ {vs:List Value}{ds:List WData},WellAll P h vs ds→vs.length=ds.length
 | _,_,.nil=>rfl
 | _,_,.cons _ b=>by
   show _+1=_+1
   rw[tY b]
theorem KO {P:Params}{h:Heap}{v:Value}{ds:List WData} (x:Well P h v (.list ds)):∃ (a:Addr) (vs:List Value),v=.ref a∧h.get? a=some { cls:=.type "list",data:=.seq vs.toArray }∧WellAll P h vs ds:=by
 cases x with
 | list ho iX=>exact⟨_,_,rfl,ho,iX⟩
theorem GW {P:Params}{h:Heap}{v:Value}{ds:List WData} (x:Well P h v (.tuple ds)):∃ (a:Addr) (vs:List Value),v=.ref a∧h.get? a=some { cls:=.type "tuple",data:=.seq vs.toArray }∧WellAll P h vs ds:=by
 cases x with
 | tuple ho iX=>exact⟨_,_,rfl,ho,iX⟩
theorem KP {P:Params}{h:Heap}{us:List Value}{d:WData}{ds:List WData} (x:WellAll P h us (d::ds)):∃ (v:Value) (vs:List Value),us=v::vs∧Well P h v d∧WellAll P h vs ds:=by
 cases x with
 | cons a b=>exact⟨_,_,rfl,a,b⟩
theorem Rh {n:Nat} (h:n≤1048576):n≤sizeLine:=bP h (by decide)
section
variable {P:Params}{h:Heap}
mutual
theorem U9:∀ (d:WData) (v:Value),Well P h v d→plW d=true→d.weight≤1048576→∃ A:List Addr,OkU A v∧∀ a∈A,xF h A a
 | .none,_,x,_,_=>by
   cases x
   exact⟨[],trivial,fun a m=>absurd m (by simp)⟩
 | .bool b,_,x,_,_=>by
   cases x
   exact⟨[],trivial,fun a m=>absurd m (by simp)⟩
 | .int i,_,x,_,_=>by
   cases x
   exact⟨[],trivial,fun a m=>absurd m (by simp)⟩
 | .str s,_,x,_,_=>by
   cases x
   exact⟨[],trivial,fun a m=>absurd m (by simp)⟩
 | .bytes b,_,x,_,_=>by
   cases x
   exact⟨[],trivial,fun a m=>absurd m (by simp)⟩
 | .list ds,_,x,p,z=>by
   obtain⟨a,vs,rfl,ho,iX⟩:=KO x
   have z2:WData.weightAll ds≤1048576:=z
   obtain⟨A,h1,h2⟩:=Dp ds _ iX p fun d hd=>bP (AU hd) z2
   have k:∀ b∈A,b∈a::A:=fun b hb=>aG _ hb
   refine⟨a::A,aI ..,fun b hb=>?_⟩
   rcases aC.mp hb with e | m
   ·rw[e]
    exact⟨vs,Rh (by rw[tY iX];exact bP (PySem.W.length_le_weightAllW ds) z2),fun u hu=>(h1 u hu).mono k,.inl ho⟩
   ·exact(h2 b m).mono k
 | .tuple ds,_,x,p,z=>by
   obtain⟨a,vs,rfl,ho,iX⟩:=GW x
   have z2:WData.weightAll ds≤1048576:=z
   obtain⟨A,h1,h2⟩:=Dp ds _ iX p fun d hd=>bP (AU hd) z2
   have k:∀ b∈A,b∈a::A:=fun b hb=>aG _ hb
   refine⟨a::A,aI ..,fun b hb=>?_⟩
   rcases aC.mp hb with e | m
   ·rw[e]
    exact⟨vs,Rh (by rw[tY iX];exact bP (PySem.W.length_le_weightAllW ds) z2),fun u hu=>(h1 u hu).mono k,.inr ho⟩
   ·exact(h2 b m).mono k
 | .float _,_,_,p,_=>cT (show false=true from p)
 | .dict _,_,_,p,_=>cT (show false=true from p)
 | .bytearray _,_,_,p,_=>cT (show false=true from p)
 | .set _,_,_,p,_=>cT (show false=true from p)
 | .frozenset _,_,_,p,_=>cT (show false=true from p)
 | .obj _ _,_,_,p,_=>cT (show false=true from p)
theorem Dp:∀ (ds:List WData) (vs:List Value),WellAll P h vs ds→FV ds=true→(∀ d∈ds,d.weight≤1048576)→∃ A:List Addr,(∀ u∈vs,OkU A u)∧∀ a∈A,xF h A a
 | [],_,x,_,_=>by
   cases x
   exact⟨[],fun u m=>absurd m (by simp),fun a m=>absurd m (by simp)⟩
 | d::ds,_,x,p,z=>by
   obtain⟨v,vs,rfl,x1,x2⟩:=KP x
   have q:plW d=true∧FV ds=true:=Bool.and_eq_true_iff.mp p
   obtain⟨A,a1,a2⟩:=U9 d v x1 q.1 (z d (aI ..))
   obtain⟨B,b1,b2⟩:=Dp ds vs x2 q.2 fun e he=>z e (aG _ he)
   have kA:∀ b∈A,b∈A++B:=fun b hb=>az.mpr (.inl hb)
   have kB:∀ b∈B,b∈A++B:=fun b hb=>az.mpr (.inr hb)
   refine⟨A++B,fun u hu=>?_,fun b hb=>?_⟩
   ·rcases aC.mp hu with e | m
    ·rw[e]
     exact a1.mono kA
    ·exact(b1 u m).mono kB
   ·rcases az.mp hb with m | m
    ·exact(a2 b m).mono kA
    ·exact(b2 b m).mono kB
end
end
def V7 (o:Obj):Option HO:=match o.data with
 | .seq vs _=>if (o.cls == Value.type "list")=true then some (.frz o (.lst (vs.toList.map toV))) else some (.frz o (.tup (vs.toList.map toV)))
 | _=>none
def wW (K:ai) (h:Heap) (A:List Addr):Hp:=fun b=>if b∈A then (if (K.lookup b).isNone=true then (h.get? b).bind V7 else none) else none
def LJ (H:Hp):Prop:=∀ b,H b=none∨∃ o u,H b=some (.frz o u)
theorem OO (vs:List Value):V7 { cls:=.type "list",data:=.seq vs.toArray }=some (.frz { cls:=.type "list",data:=.seq vs.toArray } (.lst (vs.map toV))):=by
 show(if (Value.type "list" == Value.type "list")=true then some (HO.frz { cls:=.type "list",data:=.seq vs.toArray } (.lst (vs.toArray.toList.map toV))) else some (HO.frz { cls:=.type "list",data:=.seq vs.toArray } (.tup (vs.toArray.toList.map toV))))=_
 rw[if_pos (beq_self_eq_true _)]
theorem ON (vs:List Value):V7 { cls:=.type "tuple",data:=.seq vs.toArray }=some (.frz { cls:=.type "tuple",data:=.seq vs.toArray } (.tup (vs.map toV))):=by
 show(if (Value.type "tuple" == Value.type "list")=true then some (HO.frz { cls:=.type "tuple",data:=.seq vs.toArray } (.lst (vs.toArray.toList.map toV))) else some (HO.frz { cls:=.type "tuple",data:=.seq vs.toArray } (.tup (vs.toArray.toList.map toV))))=_
 rw[if_neg (by decide)]
section
variable {P:Program}{w:World}{K:ai}{h:Heap}{A:List Addr}
theorem GV {b:Addr}{o:Obj} (hb:b∈A) (hk:K.lookup b=none) (e:h.get? b=some o):wW K h A b=V7 o:=by
 unfold wW
 rw[if_pos hb,hk,if_pos (show(none:Option Obj).isNone=true from rfl),e]<;>rfl
theorem VS {b:Addr}{u:HO} (q:wW K h A b=some u):b∈A∧K.lookup b=none:=by
 unfold wW at q
 by_cases hb:b∈A
 ·rw[if_pos hb] at q
  cases hk:K.lookup b with
  | none=>exact⟨hb,rfl⟩
  | some o=>
    rw[hk,if_neg (by simp)] at q
    cases q
 ·rw[if_neg hb] at q
  cases q
theorem GU (ar:∀ a∈A,xF h A a) {b:Addr}{u:HO} (q:wW K h A b=some u):K.lookup b=none∧∃ vs:List Value,vs.length≤sizeLine∧(∀ u∈vs,OkU A u)∧
 ((h.get? b=some { cls:=.type "list",data:=.seq vs.toArray }∧u=.frz { cls:=.type "list",data:=.seq vs.toArray } (.lst (vs.map toV)))∨
  (h.get? b=some { cls:=.type "tuple",data:=.seq vs.toArray }∧u=.frz { cls:=.type "tuple",data:=.seq vs.toArray } (.tup (vs.map toV)))):=by
 obtain⟨hb,hk⟩:=VS q
 obtain⟨vs,h1,h2,h3⟩:=ar b hb
 refine⟨hk,vs,h1,h2,?_⟩
 rcases h3 with e | e
 ·rw[GV hb hk e,OO] at q
  exact .inl ⟨e,(aa q).symm⟩
 ·rw[GV hb hk e,ON] at q
  exact .inr ⟨e,(aa q).symm⟩
theorem SN (ar:∀ a∈A,xF h A a):LJ (wW K h A):=fun b=>by
 cases q:wW K h A b with
 | none=>exact .inl rfl
 | some u=>
   obtain⟨_,vs,_,_,⟨_,e⟩ | ⟨_,e⟩⟩:=GU ar q
   ·exact .inr ⟨_,_,by rw[e]⟩
   ·exact .inr ⟨_,_,by rw[e]⟩
theorem Wn (ar:∀ a∈A,xF h A a):HOk P w (wW K h A) h:=fun b u q=>by
 obtain⟨_,vs,h1,h2,⟨e,rfl⟩ | ⟨e,rfl⟩⟩:=GU ar q
 ·exact⟨e,by rw[ae];exact h1,vs,_,uT h2,e⟩
 ·exact⟨e,by rw[ae];exact h1,vs,uT h2,_,e,rfl,_,rfl⟩
theorem GH {c c':Value}{vs us:List Value} (e:(some { cls:=c,data:=.seq vs.toArray }:Option Obj)=some { cls:=c',data:=.seq us.toArray }):c=c'∧vs=us:=by
 have e1:=aa e
 have e2:c=c':=congrArg Obj.cls e1
 have e3:Data.seq vs.toArray=Data.seq us.toArray:=congrArg Obj.data e1
 injection e3 with e4
 refine⟨e2,?_⟩
 have e5:=congrArg Array.toList e4
 simpa using e5
theorem ac0 (KX:K.In h) (ar:∀ a∈A,xF h A a) {a:Addr}{vs:List Value} (ha:a∈A) (e:h.get? a=some { cls:=.type "list",data:=.seq vs.toArray }):(∀ u∈vs,OkU A u)∧SqL K (wW K h A) a (vs.map toV):=by
 obtain⟨us,h1,h2,h3⟩:=ar a ha
 have hu:us=vs:=by
  rcases h3 with q | q
  ·rw[e] at q
   exact(GH q).2.symm
  ·rw[e] at q
   exact absurd (Value.type.inj (GH q).1) (by decide)
 subst hu
 refine⟨h2,?_⟩
 cases hk:K.lookup a with
 | none=>exact .inl (.inr ⟨_,by rw[GV ha hk e,OO]⟩)
 | some o=>
   have e2:=KX a o hk
   rw[e] at e2
   obtain rfl:=aa e2
   exact .inr ⟨_,us.toArray,_,hk,rfl,rfl,rfl,by rw[a8];exact h1,by simpa using uT h2⟩
theorem acZ (KX:K.In h) (ar:∀ a∈A,xF h A a) {a:Addr}{vs:List Value} (ha:a∈A) (e:h.get? a=some { cls:=.type "tuple",data:=.seq vs.toArray }):(∀ u∈vs,OkU A u)∧SqT K (wW K h A) a (vs.map toV):=by
 obtain⟨us,h1,h2,h3⟩:=ar a ha
 have hu:us=vs:=by
  rcases h3 with q | q
  ·rw[e] at q
   exact absurd (Value.type.inj (GH q).1) (by decide)
  ·rw[e] at q
   exact(GH q).2.symm
 subst hu
 refine⟨h2,?_⟩
 cases hk:K.lookup a with
 | none=>exact .inl (.inr ⟨_,by rw[GV ha hk e,ON]⟩)
 | some o=>
   have e2:=KX a o hk
   rw[e] at e2
   obtain rfl:=aa e2
   exact .inr ⟨_,us.toArray,_,hk,rfl,rfl,by rw[a8];exact h1,by simpa using uT h2⟩
mutual
theorem Yq {Pm:Params} (KX:K.In h) (ar:∀ a∈A,xF h A a):∀ (d:WData) (v:Value),Well Pm h v d→plW d=true→OkU A v→Dw K (wW K h A) (toV v) d
 | .none,_,x,_,_=>by
   cases x
   exact .non
 | .bool b,_,x,_,_=>by
   cases x
   exact .bl b
 | .int i,_,x,_,_=>by
   cases x
   exact .int i
 | .str s,_,x,_,_=>by
   cases x
   exact .str s
 | .bytes b,_,x,_,_=>by
   cases x
   have z:=Dw.byt (K:=K) (H:=wW K h A) b.toArray
   exact z
 | .list ds,_,x,p,hu=>by
   obtain⟨a,vs,rfl,ho,iX⟩:=KO x
   obtain⟨h2,hs⟩:=ac0 KX ar hu ho
   exact .lst hs (M1 KX ar ds _ iX p h2)
 | .tuple ds,_,x,p,hu=>by
   obtain⟨a,vs,rfl,ho,iX⟩:=GW x
   obtain⟨h2,hs⟩:=acZ KX ar hu ho
   exact .tup hs (M1 KX ar ds _ iX p h2)
 | .float _,_,_,p,_=>cT (show false=true from p)
 | .dict _,_,_,p,_=>cT (show false=true from p)
 | .bytearray _,_,_,p,_=>cT (show false=true from p)
 | .set _,_,_,p,_=>cT (show false=true from p)
 | .frozenset _,_,_,p,_=>cT (show false=true from p)
 | .obj _ _,_,_,p,_=>cT (show false=true from p)
theorem M1 {Pm:Params} (KX:K.In h) (ar:∀ a∈A,xF h A a):∀ (ds:List WData) (vs:List Value),WellAll Pm h vs ds→FV ds=true→(∀ u∈vs,OkU A u)→xE K (wW K h A) (vs.map toV) ds
 | [],_,x,_,_=>by
   cases x
   exact .nil
 | d::ds,_,x,p,hu=>by
   obtain⟨v,vs,rfl,x1,x2⟩:=KP x
   have q:plW d=true∧FV ds=true:=Bool.and_eq_true_iff.mp p
   exact .cons (Yq KX ar d v x1 q.1 (hu _ (aI ..))) (M1 KX ar ds vs x2 q.2 fun u m=>hu u (aG _ m))
end
end
theorem R0 {P:Program}{w:World}{K:ai}{mg mb:Str→Option Value}{CX:CXT}{k:Nat}{fa:Addr}{fd:FuncData}{ps:List Str}{sp:Sp}{s₁:Shared}{vals:List Value}{ds:List WData}{R:PySem.W.WRecords}{cl:Str→Option Addr}{d0:WData}
 (KX:K.In s₁.heap) (hns:s₁.heap.Ns mainGlobals mg) (hb:s₁.heap.Ns builtinsNs mb) (hbb:∀ x:Str,x≠"__name__"→mb x=bootBuiltins x) (acy:s₁.heap.NoLimit) (hg:s₁.gens=#[])
 (hwl:WellAll w.params s₁.heap vals ds) (hpl:FV ds=true) (hwt:∀ d∈ds,d.weight≤1048576) (hr:oW k callerA)
 (F:∀ base:Heap,K.In base→base.Ns mainGlobals mg→cI P w K mg base CX k fa fd ps sp) (Z0:∀ (s:Shared) (us:List Value),us.length=ps.length→BindsTo s fd ⟨us,[]⟩ (ps.zip us)) (hlen:ds.length=ps.length)
 (hsp:∀ (H:Hp) (xs:List V),LJ H→xE K H xs ds→sp xs H (fun v H'=>Dw K H' v d0) fun _ _ _=>False)
 (hCX:∀ H e s',CX [] H s₁ (fun _ _ _=>False) e s'→False):
 codeAny (model P w) callerA (.call (.ref fa) ⟨vals,[]⟩) (fun r s'=>∃ u as,r=.ok (.ret u)∧ReadsW R cl s'.heap u d0 as∧OldK s₁.heap s'.heap∧s'.os=s₁.os∧AllBare s'.gens) s₁:=by
 obtain⟨A,ho,ar⟩:=Dp ds vals hwl hpl hwt
 have hO:LJ (wW K s₁.heap A):=SN ar
 have hok:HOk P w (wW K s₁.heap A) s₁.heap:=Wn ar
 have hS:=M1 KX ar ds vals hwl hpl ho
 have hV:=uT ho
 have hK:∀ b u,wW K s₁.heap A b=some u→K.lookup b=none:=fun b u q=>(GU ar q).1
 have noA:∀ {b:Addr}{o:Obj}{es:Array DictEntry}{ep:Nat},s₁.heap.get? b=some o→o.data=.dict es ep→wW K s₁.heap A b=none:=fun {b o es ep} e d=>by
  cases q:wW K s₁.heap A b with
  | none=>rfl
  | some u=>
    obtain⟨_,vs,_,_,⟨e2,_⟩ | ⟨e2,_⟩⟩:=GU ar q
    ·rw[e2] at e
     cases e
     have d':Data.seq vs.toArray _=Data.dict es ep:=d
     cases d'
    ·rw[e2] at e
     cases e
     have d':Data.seq vs.toArray _=Data.dict es ep:=d
     cases d'
 generalize wW K s₁.heap A=H at hO hok hS hK noA
 have RG:∀ {b:Addr}{o:Obj},s₁.heap.get? b=some o→H b=none→(MR s₁.heap H).get? b=some o:=fun e n=>UD e n
 have nsK:∀ {b:Addr}{m:Str→Option Value},s₁.heap.Ns b m→(MR s₁.heap H).Ns b m:=fun {b m} ⟨o,es,ep,e,d,r⟩=>⟨o,es,ep,RG e (noA e d),d,r⟩
 have nK:∀ b o,K.lookup b=some o→H b=none:=fun b o e=>by
  cases q:H b with
  | none=>rfl
  | some u=>
    rw[hK b u q] at e
    cases e
 have hKb:K.In (MR s₁.heap H):=fun b o e=>RG (KX b o e) (nK b o e)
 have hM:Mod K mg (MR s₁.heap H):=⟨hKb,nsK hns,⟨mb,nsK hb,hbb⟩,let ⟨mc,h1,h2⟩:=acy;⟨mc,nsK h1,h2⟩⟩
 have e0:QV P w K mg (MR s₁.heap H) callerA [] s₁ H:=⟨rfl,hM,fun b o e=>VR e,uo (Su _ _),trivial,fun b hb=>absurd (show b∈([]:List Addr) from hb) (by simp),hok,.of_eq hg⟩
 have hl:vals.length=ps.length:=by rw[tY hwl];exact hlen
 refine codeAny_mono ((F _ hKb (nsK hns)).run callerA [] s₁ H ⟨vals,[]⟩ vals (vals.map toV) _ _ hr e0 (Z0 s₁ vals hl) hV (hsp H _ hO hS)) fun r s' x=>?_
 cases r with
 | error e=>exact(hCX H e s' x).elim
 | ok fl=>
   cases fl with
   | next=>exact dF x
   | brk=>exact dF x
   | cont=>exact dF x
   | ret u=>
     obtain⟨v,H',os,bare,un,Sr,r',q⟩:=x
     have kept:∀ b o,s₁.heap.get? b=some o→s'.heap.get? b=some o:=fun b o e=>by
      cases q2:H b with
      | none=>exact un.keep b o e q2 (by intro z;exact absurd (show b∈([]:List Addr) from z) (by simp)) (by simp)
      | some u2=>
        rcases hO b with z | ⟨ob,u3,z⟩
        ·rw[q2] at z
         cases z
        ·have z2:=un.BG b ob _ z
         obtain⟨e1,_⟩:=hok b _ z
         obtain⟨e2,_⟩:=Sr b _ z2
         rw[e] at e1
         cases e1
         exact e2
     have KX':K.In s'.heap:=fun b o e=>kept b o (KX b o e)
     obtain⟨as,hrd⟩:=Dw.reads (R:=R) (cl:=cl) Sr KX' d0 v u q r'
     exact⟨u,as,rfl,hrd,OldK.of_keep kept,os,bare⟩
theorem IA {ds:List WData} (h:WData.layableAll ds=true):∀ d∈ds,d.weight≤1048576:=fun d hd=>
 (PySem.W.layableW_iff.mp (bQ.mp h d hd)).2.2
theorem IV:∀ (cs:List Codec) (a:Codec.denoteAll cs),(Codec.encAll cs a).length=cs.length
 | [],_=>rfl
 | c::cs,a=>by
   show(Codec.encAll cs a.2).length+1=cs.length+1
   rw[IV cs a.2]
theorem RP {r:OpenSpec}{k:Nat}{q:Program}{loose:List Str}{XP:(Str→Option Value)→Heap→Prop}{YP:World→Heap→Prop}{d:DefRec}{K:Params→ai}{CX:World→CXT}{ps:List Str}{sp:World→Sp}
 (Uo:r.wellSaid=true) (hdf:d.params.defaults=[]) (hlen:r.args.length=ps.length) (hr:oW k callerA)
 (hY:∀ (w:World) (h:Heap),YP w h→(K w.params).In h)
 (F:∀ (w:World) (mg:Str→Option Value) (fa:Addr) (h:Heap),YP w h→(K w.params).In h→h.Ns mainGlobals mg→mg d.name=some (.ref fa)→
   ∃ fd:FuncData,(∀ (s:Shared) (us:List Value),us.length=ps.length→BindsTo s fd ⟨us,[]⟩ (ps.zip us))∧
     ∀ base:Heap,(K w.params).In base→base.Ns mainGlobals mg→cI r.prog w (K w.params) mg base (CX w) k fa fd ps (sp w))
 (hsp:∀ (w:World) (H:Hp) (xs:List V) (a:Codec.denoteAll r.args),LJ H→Codec.withinAll r.args a=true→Codec.app r.args r.asked a=true→xE (K w.params) H xs (Codec.encAll r.args a)→
   sp w xs H (fun v H'=>Dw (K w.params) H' v (r.ret.enc (Codec.app r.args r.f a))) fun _ _ _=>False)
 (hCX:∀ (w:World) (H:Hp) (s:Shared) (e:Value) (s':Shared),CX w [] H s (fun _ _ _=>False) e s'→False):
 PySem.W.WalkOS q loose XP YP r d [] (fun f vs=>PySem.call f vs):=by
 intro w s_0 s₁ mg mb G Y fa o pm cd doc dV kV ho hd hcd hD hmg hg args vals as acq acz hrd hwl hlo
 obtain⟨a,e1,e2⟩:=PySem.W.os_pre_some acq
 obtain⟨e3,hwi⟩:=Codec.encAll_of_decAll r.args args a e1
 subst e3
 have KX:=hY w _ Y
 obtain⟨fd,hb,hF⟩:=F w mg fa _ Y KX G.T.g hmg
 refine PySem.W.enter_call (codeAny_mono (R0 (R:=[]) (cl:=classAt s_0.heap) (d0:=r.ret.enc (Codec.app r.args r.f a)) KX G.T.g G.T.b G.T.builtins G.T.nolimit hg hwl (K7 _ _) (IA acz) hr hF hb (by rw[IV];exact hlen)
  (fun H xs hO hS=>hsp w H xs a hO hwi e2 hS) fun H e s'=>hCX w H s₁ e s') fun r' s' hq=>?_)
 obtain⟨u,as',rfl,h1,h2,h3,h4⟩:=hq
 exact⟨.inl ⟨u,_,as',rfl,fun _=>rfl,h1,(OpenSpec.post_iff Uo hwi _ _).mpr rfl,fun z=>cT (show false=true from z)⟩,h2,h3,h4⟩
theorem PK {r:OpenSpec}{k:Nat}{q:Program}{loose:List Str}{XP:(Str→Option Value)→Heap→Prop}{YP:World→Heap→Prop}{d:DefRec}{K:Params→ai}{CX:CXT}{ps:List Str}{sp:ai→Sp}
 (Uo:r.wellSaid=true) (hdf:d.params.defaults=[]) (hlen:r.args.length=ps.length) (hr:oW k callerA)
 (hY:∀ (w:World) (h:Heap),YP w h→(K w.params).In h)
 (F:∀ (w:World) (mg:Str→Option Value) (fa:Addr) (h:Heap),YP w h→(K w.params).In h→h.Ns mainGlobals mg→mg d.name=some (.ref fa)→
   ∃ fd:FuncData,(∀ (s:Shared) (us:List Value),us.length=ps.length→BindsTo s fd ⟨us,[]⟩ (ps.zip us))∧
     ∀ base:Heap,(K w.params).In base→base.Ns mainGlobals mg→cI r.prog w (K w.params) mg base CX k fa fd ps (sp (K w.params)))
 (hsp:∀ (K:ai) (H:Hp) (xs:List V) (a:Codec.denoteAll r.args),LJ H→Codec.withinAll r.args a=true→Codec.app r.args r.asked a=true→xE K H xs (Codec.encAll r.args a)→
   sp K xs H (fun v H'=>Dw K H' v (r.ret.enc (Codec.app r.args r.f a))) fun _ _ _=>False)
 (hCX:∀ (H:Hp) (s:Shared) (e:Value) (s':Shared),CX [] H s (fun _ _ _=>False) e s'→False):
 PySem.W.WalkOS q loose XP YP r d [] (fun f vs=>PySem.call f vs):=
 RP (K:=K) (CX:=fun _=>CX) (sp:=fun w=>sp (K w.params)) Uo hdf hlen hr hY F (fun w H xs a h1 h2 h3 h4=>hsp (K w.params) H xs a h1 h2 h3 h4) fun _ H s e s'=>hCX H s e s'
end L2
end
namespace U
open PySem PySem.Spec PyProof.Rows L2
open PySem.W (Codec)
def top (i:Nat):Stmt:=PySem.Challenge.pw_understood_s01_answers.main.body.getD i (.Pass ⟨0,0,0,0⟩)
abbrev uz:Stmt:=top 14
abbrev t4:Stmt:=top 15
abbrev rX:Stmt:=top 16
abbrev wq:Stmt:=top 17
abbrev pz:Stmt:=top 18
abbrev sM:Stmt:=top 19
abbrev iy:Stmt:=top 20
abbrev gJ:Stmt:=top 21
abbrev fK:Stmt:=top 22
abbrev yz:Stmt:=top 30
abbrev wx:Stmt:=top 32
abbrev Hw:Stmt:=top 35
abbrev Ei:Stmt:=top 36
abbrev Bg:Stmt:=top 37
abbrev wu:Stmt:=top 38
abbrev rW:Stmt:=top 39
abbrev wy:Stmt:=top 40
abbrev mY:Stmt:=top 41
abbrev mG:Stmt:=top 42
abbrev qT:Stmt:=top 43
abbrev ng:Stmt:=top 44
abbrev md:Stmt:=top 45
abbrev nc:Stmt:=top 46
abbrev mf:Stmt:=top 47
abbrev kK:Stmt:=top 48
abbrev sJ:Stmt:=top 49
abbrev g6:Stmt:=top 50
abbrev g7:Stmt:=top 51
abbrev sI:Stmt:=top 52
abbrev Eh:Stmt:=top 53
abbrev wz:Stmt:=top 75
abbrev uA:Stmt:=top 76
abbrev yA:Stmt:=top 77
abbrev qU:Stmt:=top 78
abbrev uB:Stmt:=top 79
abbrev Ej:Stmt:=top 80
abbrev wD:Stmt:=inClass (top 23) 0
abbrev uD:Stmt:=inClass (top 23) 1
abbrev pD:Stmt:=inClass (top 23) 2
abbrev gK:Stmt:=inClass (top 23) 3
abbrev wC:Stmt:=inClass (top 23) 4
abbrev pC:Stmt:=inClass (top 23) 5
abbrev n6:Stmt:=inClass (top 23) 6
abbrev n8:Stmt:=inClass (top 23) 7
abbrev mw:Stmt:=inClass (top 23) 8
abbrev my:Stmt:=inClass (top 23) 9
abbrev yC:Stmt:=inClass (top 31) 0
abbrev yB:Stmt:=inClass (top 31) 1
abbrev nh:Stmt:=inClass (top 31) 2
abbrev pA:Stmt:=inClass (top 31) 3
abbrev nX:Stmt:=inClass (top 31) 4
abbrev nj:Stmt:=inClass (top 31) 5
abbrev mh:Stmt:=inClass (top 31) 6
abbrev jH:Stmt:=inClass (top 31) 7
abbrev qV:Stmt:=inClass (top 31) 8
abbrev pV:Stmt:=inClass (top 55) 0
abbrev qY:Stmt:=inClass (top 55) 1
abbrev lI:Stmt:=inClass (top 55) 2
abbrev mq:Stmt:=inClass (top 55) 3
abbrev qX:Stmt:=inClass (top 55) 4
abbrev jI:Stmt:=inClass (top 55) 5
abbrev qW:Stmt:=inClass (top 55) 6
abbrev mi:Stmt:=inClass (top 55) 7
abbrev wB:Stmt:=inClass (top 56) 0
abbrev mv:Stmt:=inClass (top 56) 1
abbrev pB:Stmt:=inClass (top 61) 0
abbrev nZ:Stmt:=inClass (top 61) 1
abbrev mr:Stmt:=inClass (top 61) 2
abbrev kE:Stmt:=inClass (top 61) 3
abbrev jl:Stmt:=inClass (top 61) 4
abbrev hU:Stmt:=inClass (top 61) 5
abbrev uC:Stmt:=inClass (top 63) 0
abbrev nY:Stmt:=inClass (top 63) 1
abbrev qZ:Stmt:=inClass (top 63) 2
abbrev wA:Stmt:=inClass (top 63) 3
local macro_rules | `(tactic| walk_at "sc") => `(tactic| exact ⟨rfl, rfl, rfl, by decide +kernel, rfl, by decide +kernel, by decide +kernel⟩)
abbrev Ke:List Str:=["number"]
theorem Ht:bb Ke ["number"] (aL uz):=by walk_at "sc"
abbrev Fi:List Str:=["row","k"]
theorem wo:bb Fi ["row"] (aL t4):=by walk_at "sc"
abbrev CU:List Str:=["row","k"]
theorem uv:bb CU ["row"] (aL rX):=by walk_at "sc"
abbrev MB:List Str:=["names","k"]
theorem Ax:bb MB ["names"] (aL wq):=by walk_at "sc"
abbrev EB:List Str:=["names","name"]
theorem tZ:bb EB ["names"] (aL pz):=by walk_at "sc"
abbrev Ik:List Str:=["numbers","number"]
theorem xp:bb Ik ["numbers"] (aL sM):=by walk_at "sc"
abbrev n9:List Str:=["fields","field"]
theorem gH:bb n9 ["fields"] (aL iy):=by walk_at "sc"
abbrev nq:List Str:=["choices","one"]
theorem fI:bb nq ["choices"] (aL gJ):=by walk_at "sc"
abbrev mz:List Str:=["form","field","one"]
theorem fb:bb mz ["form"] (aL fK):=by walk_at "sc"
abbrev Oo:List Str:=["fields","field"]
theorem Cm:bb Oo ["fields"] (aL yz):=by walk_at "sc"
abbrev MC:List Str:=["told","number","numbers"]
theorem JQ:bb MC ["told","number","numbers"] (aL wx):=by walk_at "sc"
abbrev TV:List Str:=["number"]
theorem R3:bb TV ["number"] (aL Hw):=by walk_at "sc"
abbrev Sg:List Str:=["value"]
theorem P7:bb Sg ["value"] (aL Ei):=by walk_at "sc"
abbrev Qk:List Str:=["size"]
theorem NW:bb Qk ["size"] (aL Bg):=by walk_at "sc"
abbrev Ij:List Str:=["wants","want"]
theorem yx:bb Ij ["wants"] (aL wu):=by walk_at "sc"
abbrev CT:List Str:=["named_wants","name","want"]
theorem pU:bb CT ["named_wants"] (aL rW):=by walk_at "sc"
abbrev MD:List Str:=["name","want"]
theorem JR:bb MD ["name","want"] (aL wy):=by walk_at "sc"
abbrev xt:List Str:=["fields","field"]
theorem pf:bb xt ["fields"] (aL mY):=by walk_at "sc"
abbrev uI:List Str:=["form","field","one"]
theorem kU:bb uI ["form"] (aL mG):=by walk_at "sc"
abbrev F7:List Str:=["lo","hi","other_lo","other_hi"]
theorem Eg:bb F7 ["lo","hi","other_lo","other_hi"] (aL qT):=by walk_at "sc"
abbrev BA:List Str:=["form","other","value"]
theorem rC:bb BA ["form","other"] (aL ng):=by walk_at "sc"
abbrev zR:List Str:=["form","other","size"]
theorem qf:bb zR ["form","other"] (aL md):=by walk_at "sc"
abbrev Bz:List Str:=["form","other","size","refused","rest"]
theorem jb:bb Bz ["form","other"] (aL nc):=by walk_at "sc"
abbrev zS:List Str:=["form","other","ways","size"]
theorem kW:bb zS ["form","other"] (aL mf):=by walk_at "sc"
abbrev ub:List Str:=["fields","other_fields","sent","field"]
theorem jG:bb ub ["fields","other_fields"] (aL kK):=by walk_at "sc"
abbrev Ii:List Str:=["fields","name","want","named_wants","field"]
theorem qS:bb Ii ["fields","name","want"] (aL sJ):=by walk_at "sc"
abbrev oY:List Str:=["form","other","taken","field","ways","want"]
theorem cW:bb oY ["form","other"] (aL g6):=by walk_at "sc"
abbrev oZ:List Str:=["form","other","taken","one"]
theorem gi:bb oZ ["form","other"] (aL g7):=by walk_at "sc"
abbrev Ih:List Str:=["form","other"]
theorem FK:bb Ih ["form","other"] (aL sI):=by walk_at "sc"
abbrev Sf:List Str:=["told","want"]
theorem P6:bb Sf ["told","want"] (aL Eh):=by walk_at "sc"
abbrev ME:List Str:=["reader","forms","lo","hi"]
theorem uw:bb ME ["reader","forms"] (aL wz):=by walk_at "sc"
abbrev Kg:List Str:=["reader","forms","of","lo","hi"]
theorem nU:bb Kg ["reader","forms"] (aL uA):=by walk_at "sc"
abbrev Oq:List Str:=["reader","questions","number"]
theorem Cn:bb Oq ["reader","questions"] (aL yA):=by walk_at "sc"
abbrev F8:List Str:=["reader","questions","number","other"]
theorem pq:bb F8 ["reader","questions"] (aL qU):=by walk_at "sc"
abbrev Kh:List Str:=["reader","forms","questions","call"]
theorem yy:bb Kh ["reader","forms","questions"] (aL uB):=by walk_at "sc"
abbrev Sh:List Str:=["calls","reader","forms","questions","given","answered"]
theorem pj:bb Sh ["calls"] (aL Ej):=by walk_at "sc"
abbrev MI:List Str:=["self"]
theorem JU:bb MI ["self"] (aL wD):=by walk_at "sc"
abbrev Kj:List Str:=["self"]
theorem Hv:bb Kj ["self"] (aL uD):=by walk_at "sc"
abbrev EF:List Str:=["self","number"]
theorem Cs:bb EF ["self","number"] (aL pD):=by walk_at "sc"
abbrev sX:List Str:=["self","form","number"]
theorem gj:bb sX ["self"] (aL gK):=by walk_at "sc"
abbrev MH:List Str:=["self","form"]
theorem JT:bb MH ["self","form"] (aL wC):=by walk_at "sc"
abbrev EE:List Str:=["self","lo","hi"]
theorem Cr:bb EE ["self","lo","hi"] (aL pC):=by walk_at "sc"
abbrev CZ:List Str:=["self","most"]
theorem Be:bb CZ ["self","most"] (aL n6):=by walk_at "sc"
abbrev C0:List Str:=["self","of","lo","hi"]
theorem Bf:bb C0 ["self","of","lo","hi"] (aL n8):=by walk_at "sc"
abbrev zY:List Str:=["self","row","fields"]
theorem qi:bb zY ["self","row"] (aL mw):=by walk_at "sc"
abbrev zZ:List Str:=["self","row","choices"]
theorem qo:bb zZ ["self","row"] (aL my):=by walk_at "sc"
abbrev Ou:List Str:=["self","told","numbers"]
theorem Ma:bb Ou ["self","told","numbers"] (aL yC):=by walk_at "sc"
abbrev Ot:List Str:=["self","taken"]
theorem Co:bb Ot ["self"] (aL yB):=by walk_at "sc"
abbrev BB:List Str:=["self","lo","hi","taken"]
theorem rD:bb BB ["self","lo","hi"] (aL nh):=by walk_at "sc"
abbrev EC:List Str:=["self","more"]
theorem Cp:bb EC ["self","more"] (aL pA):=by walk_at "sc"
abbrev CV:List Str:=["self","most","size","k"]
theorem m9:bb CV ["self","most"] (aL nX):=by walk_at "sc"
abbrev BC:List Str:=["self","choices","name","one"]
theorem ma:bb BC ["self","choices"] (aL nj):=by walk_at "sc"
abbrev zT:List Str:=["self","form","size"]
theorem kX:bb zT ["self","form"] (aL mh):=by walk_at "sc"
abbrev sW:List Str:=["self","fields","left","name","names","field","at"]
theorem fJ:bb sW ["self","fields","left"] (aL jH):=by walk_at "sc"
abbrev F9:List Str:=["self","number","following"]
theorem u1:bb F9 ["self","number"] (aL qV):=by walk_at "sc"
abbrev AD:List Str:=["self","told","known","parts"]
theorem sG:bb AD ["self","told","known"] (aL pV):=by walk_at "sc"
abbrev Gd:List Str:=["self","want","fresh","met","way"]
theorem lH:bb Gd ["self","want"] (aL qY):=by walk_at "sc"
abbrev vh:List Str:=["self","want","way","place","lacked","step","fresh","needed"]
theorem fi:bb vh ["self","want","way"] (aL lI):=by walk_at "sc"
abbrev zV:List Str:=["self","place","way","parts","step","message"]
theorem dM:bb zV ["self","place"] (aL mq):=by walk_at "sc"
abbrev Gb:List Str:=["self","way","built","step"]
theorem px:bb Gb ["self","way"] (aL qX):=by walk_at "sc"
abbrev wL:List Str:=["self","parts","earliest","place","want","built"]
theorem dN:bb wL ["self","parts"] (aL jI):=by walk_at "sc"
abbrev Ga:List Str:=["self","parts","earliest","want","place"]
theorem lG:bb Ga ["self","parts"] (aL qW):=by walk_at "sc"
abbrev zU:List Str:=["self","parts","want"]
theorem kY:bb zU ["self"] (aL mi):=by walk_at "sc"
abbrev MG:List Str:=["self","told"]
theorem JS:bb MG ["self","told"] (aL wB):=by walk_at "sc"
abbrev zX:List Str:=["self","want","search"]
theorem qh:bb zX ["self","want"] (aL mv):=by walk_at "sc"
abbrev ED:List Str:=["self","forms"]
theorem Cq:bb ED ["self","forms"] (aL pB):=by walk_at "sc"
abbrev CY:List Str:=["self","answered"]
theorem sH:bb CY ["self"] (aL nZ):=by walk_at "sc"
abbrev zW:List Str:=["self","numbers","number"]
theorem qg:bb zW ["self","numbers"] (aL mr):=by walk_at "sc"
abbrev xM:List Str:=["self","number","numbers","refused"]
theorem nW:bb xM ["self","number","numbers"] (aL kE):=by walk_at "sc"
abbrev vj:List Str:=["self","number","refused","message"]
theorem iV:bb vj ["self","number"] (aL jl):=by walk_at "sc"
abbrev tT:List Str:=["self","number","other","refused","message"]
theorem gI:bb tT ["self","number","other"] (aL hU):=by walk_at "sc"
abbrev Ki:List Str:=["self","calls"]
theorem Hu:bb Ki ["self","calls"] (aL uC):=by walk_at "sc"
abbrev CW:List Str:=["self"]
theorem Bd:bb CW ["self"] (aL nY):=by walk_at "sc"
abbrev Ge:List Str:=["self","taken"]
theorem u4:bb Ge ["self"] (aL qZ):=by walk_at "sc"
abbrev MF:List Str:=["self","size","start"]
theorem ux:bb MF ["self"] (aL wA):=by walk_at "sc"
set_option genInjectivity false in
set_option genSizeOf false in
structure Adr where
 (ko nH lN lL gz jq fo eQ d8 nG lM vB sy pM pN lK lO ig km ij eP d6 eO d7 fq jo dC dD jn sx lP kq nJ ik kr sA lT kz gE cQ lS gD fz fA er et nM nL eR gA ft eT d9 eS il ku ir gB eg iq di ip ee lR el gC fw eh dE c9 cU kx fu fF lQ:Addr)
 (mK qA om oh jr k8 iE gN fN qz oj yW vD tm tp og oo jS mJ jT gM fL gL fM iF k7 eE eF k6 vC oq mM qB jU mO sC ox mR jw de ow jv iJ iK fT fU qD qC gO js iG gQ fO gP jV mP jY jt fQ jX dX jW fP ou fS ju iI fR eG dR dn mQ iH iu ot:FuncData)
 (cX bZ bM iM bH c8:Addr)
 (lC ji lD jg lB jh ib sm nD lz lE je jk lA jj su uX so ic jf gx zc pd nB nE j9 ka RT D1 uW:Value)
structure Txt (K:ai) (mg:Str→Option Value) (t:Adr):Prop where
 kD:Fun K "can_be_form" "can_be_form" uz t.ko t.mK
 AQ:Binds K t.mK ["number"] []
 AO:mg "can_be_form"=some (.ref t.ko)
 qH:Fun K "fields_in" "fields_in" t4 t.nH t.qA
 PB:Binds K t.qA ["row"] []
 Pt:mg "fields_in"=some (.ref t.nH)
 oJ:Fun K "choices_in" "choices_in" rX t.lN t.om
 NA:Binds K t.om ["row"] []
 Nr:mg "choices_in"=some (.ref t.lN)
 oH:Fun K "names_rise" "names_rise" wq t.lL t.oh
 Ny:Binds K t.oh ["names"] []
 Np:mg "names_rise"=some (.ref t.lL)
 gF:Fun K "names_are_good" "names_are_good" pz t.gz t.jr
 vU:Binds K t.jr ["names"] []
 vQ:mg "names_are_good"=some (.ref t.gz)
 jA:Fun K "can_be_forms" "can_be_forms" sM t.jq t.k8
 y6:Binds K t.k8 ["numbers"] []
 y4:mg "can_be_forms"=some (.ref t.jq)
 iN:Fun K "fields_are_good" "fields_are_good" iy t.fo t.iE
 DJ:Binds K t.iE ["fields"] []
 DF:mg "fields_are_good"=some (.ref t.fo)
 gT:Fun K "choices_are_good" "choices_are_good" gJ t.eQ t.gN
 BV:Binds K t.gN ["choices"] []
 BR:mg "choices_are_good"=some (.ref t.eQ)
 fX:Fun K "forms_referred_to" "forms_referred_to" fK t.d8 t.fN
 Ao:Binds K t.fN ["form"] []
 Ai:mg "forms_referred_to"=some (.ref t.d8)
 nP:Fun K "pass_over" "pass_over" yz t.nG t.qz
 FC:Binds K t.qz ["fields"] []
 Fz:mg "pass_over"=some (.ref t.nG)
 oI:Fun K "is_message" "is_message" wx t.lM t.oj
 Nz:Binds K t.oj ["told","number","numbers"] []
 Nq:mg "is_message"=some (.ref t.lM)
 lj:Fun K "any_of" "any_of" Hw t.vB t.yW
 tJ:Binds K t.yW ["number"] []
 tH:mg "any_of"=some (.ref t.vB)
 sD:Fun K "num_way" "num_way" Ei t.sy t.vD
 LL:Binds K t.vD ["value"] []
 LK:mg "num_way"=some (.ref t.sy)
 pO:Fun K "text_way" "text_way" Bg t.pM t.tm
 Jy:Binds K t.tm ["size"] []
 Jq:mg "text_way"=some (.ref t.pM)
 lh:Fun K "list_way" "list_way" wu t.pN t.tp
 w9:Binds K t.tp ["wants"] []
 w6:mg "list_way"=some (.ref t.pN)
 lY:Fun K "record_way" "record_way" rW t.lK t.og
 DI:Binds K t.og ["named_wants"] []
 DE:mg "record_way"=some (.ref t.lK)
 lZ:Fun K "choice_way" "choice_way" wy t.lO t.oo
 DL:Binds K t.oo ["name","want"] []
 DH:mg "choice_way"=some (.ref t.lO)
 fG:Fun K "must_be_there" "must_be_there" mY t.ig t.jS
 rn:Binds K t.jS ["fields"] []
 rk:mg "must_be_there"=some (.ref t.ig)
 iZ:Fun K "ways_to_any" "ways_to_any" mG t.km t.mJ
 uP:Binds K t.mJ ["form"] []
 uO:mg "ways_to_any"=some (.ref t.km)
 fH:Fun K "least_outside" "least_outside" qT t.ij t.jT
 rq:Binds K t.jT ["lo","hi","other_lo","other_hi"] []
 rm:mg "least_outside"=some (.ref t.ij)
 gS:Fun K "ways_outside_num" "ways_outside_num" ng t.eP t.gM
 BU:Binds K t.gM ["form","other"] []
 BQ:mg "ways_outside_num"=some (.ref t.eP)
 fV:Fun K "ways_outside_text" "ways_outside_text" md t.d6 t.fL
 Ak:Binds K t.fL ["form","other"] []
 Ag:mg "ways_outside_text"=some (.ref t.d6)
 gR:Fun K "ways_within_list" "ways_within_list" nc t.eO t.gL
 BS:Binds K t.gL ["form","other"] []
 BP:mg "ways_within_list"=some (.ref t.eO)
 fW:Fun K "ways_outside_list" "ways_outside_list" mf t.d7 t.fM
 Al:Binds K t.fM ["form","other"] []
 Ah:mg "ways_outside_list"=some (.ref t.d7)
 iO:Fun K "fewest_lack_one" "fewest_lack_one" kK t.fq t.iF
 DK:Binds K t.iF ["fields","other_fields"] []
 DG:mg "fewest_lack_one"=some (.ref t.fq)
 lg:Fun K "way_by_field" "way_by_field" sJ t.jo t.k7
 Jx:Binds K t.k7 ["fields","name","want"] []
 Jp:mg "way_by_field"=some (.ref t.jo)
 eI:Fun K "ways_outside_record" "ways_outside_record" g6 t.dC t.eE
 xT:Binds K t.eE ["form","other"] []
 xR:mg "ways_outside_record"=some (.ref t.dC)
 eJ:Fun K "ways_outside_choice" "ways_outside_choice" g7 t.dD t.eF
 xU:Binds K t.eF ["form","other"] []
 xS:mg "ways_outside_choice"=some (.ref t.dD)
 lb:Fun K "ways_outside" "ways_outside" sI t.jn t.k6
 Jw:Binds K t.k6 ["form","other"] []
 Jo:mg "ways_outside"=some (.ref t.jn)
 vS:Fun K "ways_to" "ways_to" Eh t.sx t.vC
 S1:Binds K t.vC ["told","want"] []
 SX:mg "ways_to"=some (.ref t.sx)
 oK:Fun K "answer_num" "answer_num" wz t.lP t.oq
 NB:Binds K t.oq ["reader","forms"] []
 Nt:mg "answer_num"=some (.ref t.lP)
 mT:Fun K "answer_list" "answer_list" uA t.kq t.mM
 KG:Binds K t.mM ["reader","forms"] []
 Kw:mg "answer_list"=some (.ref t.kq)
 qI:Fun K "answer_is" "answer_is" yA t.nJ t.qB
 PD:Binds K t.qB ["reader","questions"] []
 Pu:mg "answer_is"=some (.ref t.nJ)
 j3:Fun K "answer_within" "answer_within" qU t.ik t.jU
 GB:Binds K t.jU ["reader","questions"] []
 Gy:mg "answer_within"=some (.ref t.ik)
 mU:Fun K "answer_call" "answer_call" uB t.kr t.mO
 KH:Binds K t.mO ["reader","forms","questions"] []
 Kx:mg "answer_call"=some (.ref t.kr)
 vT:Fun K "answers" "answers" Ej t.sA t.sC
 YJ:Binds K t.sC ["calls"] []
 SY:mg "answers"=some (.ref t.sA)
 sj:Fun K "__init__" "Forms.__init__" wD t.lT t.ox
 NC:Binds K t.ox ["self"] []
 mV:Fun K "begin" "Forms.begin" uD t.kz t.mR
 KL:Binds K t.mR ["self"] []
 Kv:Meth K t.cX "begin" t.kz
 jE:Fun K "has_form" "Forms.has_form" pD t.gE t.jw
 vX:Binds K t.jw ["self","number"] []
 vP:Meth K t.cX "has_form" t.gE
 dg:Fun K "refer_to_told_ones" "Forms.refer_to_told_ones" gK t.cQ t.de
 tK:Binds K t.de ["self"] []
 tG:Meth K t.cX "refer_to_told_ones" t.cQ
 oN:Fun K "keep" "Forms.keep" wC t.lS t.ow
 oQ:Binds K t.ow ["self","form"] []
 oF:Meth K t.cX "keep" t.lS
 jD:Fun K "tell_num" "Forms.tell_num" pC t.gD t.jv
 E9:Binds K t.jv ["self","lo","hi"] []
 E5:Meth K t.cX "tell_num" t.gD
 iS:Fun K "tell_text" "Forms.tell_text" n6 t.fz t.iJ
 DQ:Binds K t.iJ ["self","most"] []
 DC:Meth K t.cX "tell_text" t.fz
 iT:Fun K "tell_list" "Forms.tell_list" n8 t.fA t.iK
 DR:Binds K t.iK ["self","of","lo","hi"] []
 DD:Meth K t.cX "tell_list" t.fA
 gb:Fun K "tell_record" "Forms.tell_record" mw t.er t.fT
 Ar:Binds K t.fT ["self","row"] []
 Ae:Meth K t.cX "tell_record" t.er
 gc:Fun K "tell_choice" "Forms.tell_choice" my t.et t.fU
 As:Binds K t.fU ["self","row"] []
 Af:Meth K t.cX "tell_choice" t.et
 um:Fun K "__init__" "Walk.__init__" yC t.nM t.qD
 PF:Binds K t.qD ["self","told","numbers"] []
 qJ:Fun K "take" "Walk.take" yB t.nL t.qC
 y8:Binds K t.qC ["self"] []
 yZ:Meth K t.bZ "take" t.nL
 gU:Fun K "take_within" "Walk.take_within" nh t.eR t.gO
 eV:Binds K t.gO ["self","lo","hi"] []
 eU:Meth K t.bZ "take_within" t.eR
 jB:Fun K "add_parts" "Walk.add_parts" pA t.gA t.js
 vV:Binds K t.js ["self","more"] []
 vN:Meth K t.bZ "add_parts" t.gA
 iP:Fun K "take_bytes" "Walk.take_bytes" nX t.ft t.iG
 DM:Binds K t.iG ["self","most"] []
 Dz:Meth K t.bZ "take_bytes" t.ft
 gX:Fun K "take_choice" "Walk.take_choice" nj t.eT t.gQ
 BX:Binds K t.gQ ["self","choices"] []
 BO:Meth K t.bZ "take_choice" t.eT
 fY:Fun K "take_message" "Walk.take_message" mh t.d9 t.fO
 Ap:Binds K t.fO ["self","form"] []
 z9:Meth K t.bZ "take_message" t.d9
 gW:Fun K "take_fields" "Walk.take_fields" jH t.eS t.gP
 BW:Binds K t.gP ["self","fields","left"] []
 BN:Meth K t.bZ "take_fields" t.eS
 j4:Fun K "take_all" "Walk.take_all" qV t.il t.jV
 GC:Binds K t.jV ["self","number"] []
 Gu:Meth K t.bZ "take_all" t.il
 pY:Fun K "__init__" "Search.__init__" pV t.ku t.mP
 KI:Binds K t.mP ["self","told","known"] []
 j7:Fun K "gather" "Search.gather" qY t.ir t.jY
 GG:Binds K t.jY ["self","want"] []
 Gx:Meth K t.bM "gather" t.ir
 jC:Fun K "add_way" "Search.add_way" lI t.gB t.jt
 E7:Binds K t.jt ["self","want","way"] []
 E4:Meth K t.bM "add_way" t.gB
 f6:Fun K "make_ready" "Search.make_ready" mq t.eg t.fQ
 rQ:Binds K t.fQ ["self","place"] []
 rO:Meth K t.bM "make_ready" t.eg
 j6:Fun K "row_by" "Search.row_by" qX t.iq t.jX
 GF:Binds K t.jX ["self","way"] []
 Gw:Meth K t.bM "row_by" t.iq
 dZ:Fun K "earliest_rows" "Search.earliest_rows" jI t.di t.dX
 xa:Binds K t.dX ["self","parts"] []
 wX:Meth K t.bM "earliest_rows" t.di
 j5:Fun K "settle" "Search.settle" qW t.ip t.jW
 GD:Binds K t.jW ["self","parts"] []
 Gv:Meth K t.bM "settle" t.ip
 fZ:Fun K "settle_all" "Search.settle_all" mi t.ee t.fP
 Aq:Binds K t.fP ["self"] []
 Aa:Meth K t.bM "settle_all" t.ee
 si:Fun K "__init__" "Least.__init__" wB t.lR t.ou
 DP:Binds K t.ou ["self","told"] []
 f9:Fun K "message_for" "Least.message_for" mv t.el t.fS
 rR:Binds K t.fS ["self","want"] []
 rP:Meth K t.iM "message_for" t.el
 l3:Fun K "__init__" "Questions.__init__" pB t.gC t.ju
 E8:Binds K t.ju ["self","forms"] []
 iR:Fun K "begin" "Questions.begin" nZ t.fw t.iI
 DO:Binds K t.iI ["self"] []
 DB:Meth K t.bH "begin" t.fw
 f7:Fun K "refusal" "Questions.refusal" mr t.eh t.fR
 mC:Binds K t.fR ["self","numbers"] []
 mB:Meth K t.bH "refusal" t.eh
 eK:Fun K "answer_is" "Questions.answer_is" kE t.dE t.eG
 xV:Binds K t.eG ["self","number","numbers"] []
 xQ:Meth K t.bH "answer_is" t.dE
 dU:Fun K "answer_some" "Questions.answer_some" jl t.c9 t.dR
 vW:Binds K t.dR ["self","number"] []
 vO:Meth K t.bH "answer_some" t.c9
 dw:Fun K "answer_within" "Questions.answer_within" hU t.cU t.dn
 tW:Binds K t.dn ["self","number","other"] []
 tU:Meth K t.bH "answer_within" t.cU
 pZ:Fun K "__init__" "Reader.__init__" uC t.kx t.mQ
 KJ:Binds K t.mQ ["self","calls"] []
 iQ:Fun K "has_more" "Reader.has_more" nY t.fu t.iH
 DN:Binds K t.iH ["self"] []
 DA:Meth K t.c8 "has_more" t.fu
 j8:Fun K "number" "Reader.number" qZ t.fF t.iu
 cP:Binds K t.iu ["self"] []
 cO:Meth K t.c8 "number" t.fF
 oM:Fun K "row" "Reader.row" wA t.lQ t.ot
 xf:Binds K t.ot ["self"] []
 wY:Meth K t.c8 "row" t.lQ
 dA:Cls K t.cX
 Wu:mg "Forms"=some (.ref t.cX)
 Wt:Mk K t.cX t.lT
 e8:gp K t.cX "told"
 cN:Cls K t.bZ
 YF:mg "Walk"=some (.ref t.bZ)
 YC:Mk K t.bZ t.nM
 Fy:gp K t.bZ "told"
 oC:gp K t.bZ "numbers"
 lV:gp K t.bZ "place"
 se:gp K t.bZ "parts"
 jM:gp K t.bZ "due"
 bU:Cls K t.bM
 Vp:mg "Search"=some (.ref t.bM)
 Vl:Mk K t.bM t.ku
 AN:gp K t.bM "told"
 ff:gp K t.bM "known"
 kC:gp K t.bM "ways"
 jy:gp K t.bM "lacking"
 dS:gp K t.bM "waiting"
 tF:gp K t.bM "ready"
 oP:Cls K t.iM
 RO:mg "Least"=some (.ref t.iM)
 RM:Mk K t.iM t.lR
 Dy:gp K t.iM "told"
 mS:gp K t.iM "known"
 cJ:Cls K t.bH
 Px:mg "Questions"=some (.ref t.bH)
 Pr:Mk K t.bH t.gC
 fC:gp K t.bH "forms"
 kN:gp K t.bH "least"
 cC:Cls K t.c8
 Vq:mg "Reader"=some (.ref t.c8)
 Vm:Mk K t.c8 t.kx
 oE:gp K t.c8 "calls"
 fh:gp K t.c8 "place"
 Nv:mg "MOST_FORMS"=some t.lC
 Nj:RelV (.int (16)) t.lC
 Ju:mg "HIGHEST_FORM"=some t.ji
 Jm:RelV (.int (15)) t.ji
 Nw:mg "MOST_BYTES"=some t.lD
 Nk:RelV (.int (100)) t.lD
 Js:mg "LONGEST_LIST"=some t.jg
 Jk:RelV (.int (32)) t.jg
 Nu:mg "MOST_NAMES"=some t.lB
 Ni:RelV (.int (8)) t.lB
 Jt:mg "HIGHEST_NAME"=some t.jh
 Jl:RelV (.int (63)) t.jh
 j0:mg "OUT_OF_BOUNDS"=some t.ib
 jZ:RelV (.int (-22)) t.ib
 S0:mg "NO_ROOM"=some t.sm
 SV:RelV (.int (-28)) t.sm
 qG:mg "NUM_forms"=some t.nD
 qF:RelV (.int (0)) t.nD
 oG:mg "TEXT_forms"=some t.lz
 oB:RelV (.int (1)) t.lz
 lX:mg "LIST_forms"=some t.lE
 lU:RelV (.int (2)) t.lE
 jz:mg "RECORD_forms"=some t.je
 jx:RelV (.int (3)) t.je
 tI:mg "CHOICE_forms"=some t.jk
 tE:RelV (.int (4)) t.jk
 sg:mg "MOST_PARTS"=some t.lA
 sd:RelV (.int (200)) t.lA
 Jv:mg "HIGHEST_BYTE"=some t.jj
 Jn:RelV (.int (255)) t.jj
 vR:mg "MESSAGE"=some t.su
 vM:RelV (.int (0)) t.su
 Pz:mg "FIELDS"=some t.uX
 Pq:RelV (.int (1)) t.uX
 zo:mg "NO_FORM"=some t.so
 zl:RelV (.int (-1)) t.so
 GA:mg "NO_FORM_THERE"=some t.ic
 Gs:RelV (.int (-2)) t.ic
 Jr:mg "NOT_ALL_TOLD"=some t.jf
 Ji:RelV (.int (-61)) t.jf
 E6:mg "HAS_NO_MESSAGE"=some t.gx
 E3:RelV (.int (-6)) t.gx
 Wv:mg "BEGIN"=some t.zc
 Wr:RelV (.int (0)) t.zc
 QU:mg "NUM_desk"=some t.pd
 QR:RelV (.int (1)) t.pd
 Pw:mg "TEXT_desk"=some t.nB
 Po:RelV (.int (2)) t.nB
 Py:mg "LIST_desk"=some t.nE
 Pp:RelV (.int (3)) t.nE
 Ky:mg "RECORD_desk"=some t.j9
 Ks:RelV (.int (4)) t.j9
 Kz:mg "CHOICE_desk"=some t.ka
 Kt:RelV (.int (5)) t.ka
 ac3:mg "IS"=some t.RT
 ac2:RelV (.int (6)) t.RT
 YG:mg "SOME"=some t.D1
 Yz:RelV (.int (7)) t.D1
 Vo:mg "WITHIN"=some t.uW
 Vh:RelV (.int (8)) t.uW
 zm:mg "range"=none
 aao:mg "max"=none
 Vk:mg "dict"=none
 nO:mg "len"=none
 YB:mg "list"=none
 RK:mg "tuple"=none
def Gf (K:ai) (x:Str) (st:Stmt) (f:Addr):Prop:=bj K mainGlobals x=some (some (.ref f))∧∃ d,Fun K x x st f d
def Mf (K:ai) (c:Addr) (x q:Str) (st:Stmt) (f:Addr):Prop:=(bC K (.ref c) x=some (some (.ref f))∧DW K (.ref f)=true)∧∃ d,Fun K x q st f d
def Cf (K:ai) (x:Str) (c:Addr):Prop:=bj K mainGlobals x=some (some (.ref c))∧Cls K c∧PySem.W.makesIn K c=true∧oT K (.ref c)=true
theorem bnd1 {p:List Value→Prop} (h:∀ x0,p [x0]):∀ us:List Value,us.length=1→p us:=fun us hl=>match us,hl with | [_],_=>h _
local macro_rules | `(tactic| walk_at "b1") => `(tactic| exact fun _ _ _ _ _ _ => bnd1 fun _ => rfl)
theorem bnd2 {p:List Value→Prop} (h:∀ x0 x1,p [x0,x1]):∀ us:List Value,us.length=2→p us:=fun us hl=>match us,hl with | [_,_],_=>h _ _
local macro_rules | `(tactic| walk_at "b2") => `(tactic| exact fun _ _ _ _ _ _ => bnd2 fun _ _ => rfl)
theorem bnd3 {p:List Value→Prop} (h:∀ x0 x1 x2,p [x0,x1,x2]):∀ us:List Value,us.length=3→p us:=fun us hl=>match us,hl with | [_,_,_],_=>h _ _ _
local macro_rules | `(tactic| walk_at "b3") => `(tactic| exact fun _ _ _ _ _ _ => bnd3 fun _ _ _ => rfl)
theorem bnd4 {p:List Value→Prop} (h:∀ x0 x1 x2 x3,p [x0,x1,x2,x3]):∀ us:List Value,us.length=4→p us:=fun us hl=>match us,hl with | [_,_,_,_],_=>h _ _ _ _
local macro_rules | `(tactic| walk_at "b4") => `(tactic| exact fun _ _ _ _ _ _ => bnd4 fun _ _ _ _ => rfl)
theorem Xb {K:ai}{h:Heap}{mg:Str→Option Value} (X:K.In h) (G:h.Ns mainGlobals mg)
 {cX bZ bM iM bH c8 ko nH lN lL gz jq fo eQ d8 nG lM vB sy pM pN lK lO ig km ij eP d6 eO d7 fq jo dC dD jn sx lP kq nJ ik kr sA lT kz gE cQ lS gD fz fA er et nM nL eR gA ft eT d9 eS il ku ir gB eg iq di ip ee lR el gC fw eh dE c9 cU kx fu fF lQ:Addr}{lC ji lD jg lB jh ib sm nD lz lE je jk lA jj su uX so ic jf gx zc pd nB nE j9 ka RT D1 uW:Value}
 (VJ:Cf K "Forms" cX) (Kd:bC K (.ref cX) "told"=some none) (Xs:Cf K "Walk" bZ) (MA:bC K (.ref bZ) "told"=some none) (FY:bC K (.ref bZ) "numbers"=some none) (Ka:bC K (.ref bZ) "place"=some none) (Kb:bC K (.ref bZ) "parts"=some none) (Om:bC K (.ref bZ) "due"=some none) (Tv:Cf K "Search" bM) (Ie:bC K (.ref bM) "told"=some none) (F0:bC K (.ref bM) "known"=some none) (Ic:bC K (.ref bM) "ways"=some none) (CS:bC K (.ref bM) "lacking"=some none) (CQ:bC K (.ref bM) "waiting"=some none) (FZ:bC K (.ref bM) "ready"=some none) (VI:Cf K "Least" iM) (Kc:bC K (.ref iM) "told"=some none) (Ig:bC K (.ref iM) "known"=some none) (N8:Cf K "Questions" bH) (By:bC K (.ref bH) "forms"=some none) (Bx:bC K (.ref bH) "least"=some none) (Tw:Cf K "Reader" c8) (F6:bC K (.ref c8) "calls"=some none) (F5:bC K (.ref c8) "place"=some none) (JW:Gf K "can_be_form" uz ko) (N4:Gf K "fields_in" t4 nH) (Mj:Gf K "choices_in" rX lN) (Mh:Gf K "names_rise" wq lL) (Eo:Gf K "names_are_good" pz gz) (HD:Gf K "can_be_forms" sM jq) (Cy:Gf K "fields_are_good" iy fo) (Bl:Gf K "choices_are_good" gJ eQ) (zE:Gf K "forms_referred_to" fK d8) (N3:Gf K "pass_over" yz nG) (Mi:Gf K "is_message" wx lM) (Tu:Gf K "any_of" Hw vB) (R8:Gf K "num_way" Ei sy) (Qa:Gf K "text_way" Bg pM) (Qb:Gf K "list_way" wu pN) (Mg:Gf K "record_way" rW lK) (Mm:Gf K "choice_way" wy lO) (FL:Gf K "must_be_there" mY ig) (JV:Gf K "ways_to_any" mG km) (FN:Gf K "least_outside" qT ij) (Bk:Gf K "ways_outside_num" ng eP) (zC:Gf K "ways_outside_text" md d6) (Bi:Gf K "ways_within_list" nc eO) (zD:Gf K "ways_outside_list" mf d7) (Cz:Gf K "fewest_lack_one" kK fq) (HC:Gf K "way_by_field" sJ jo) (xG:Gf K "ways_outside_record" g6 dC) (xH:Gf K "ways_outside_choice" g7 dD) (HB:Gf K "ways_outside" sI jn) (R7:Gf K "ways_to" Eh sx) (Mn:Gf K "answer_num" wz lP) (JX:Gf K "answer_list" uA kq) (N5:Gf K "answer_is" yA nJ) (FO:Gf K "answer_within" qU ik) (JY:Gf K "answer_call" uB kr) (R9:Gf K "answers" Ej sA) (Mr:Mf K cX "__init__" "Forms.__init__" wD lT) (J1:Mf K cX "begin" "Forms.begin" uD kz) (Eu:Mf K cX "has_form" "Forms.has_form" pD gE) (sO:Mf K cX "refer_to_told_ones" "Forms.refer_to_told_ones" gK cQ) (Mq:Mf K cX "keep" "Forms.keep" wC lS) (Et:Mf K cX "tell_num" "Forms.tell_num" pC gD) (CD:Mf K cX "tell_text" "Forms.tell_text" n6 fz) (CF:Mf K cX "tell_list" "Forms.tell_list" n8 fA) (zK:Mf K cX "tell_record" "Forms.tell_record" mw er) (zL:Mf K cX "tell_choice" "Forms.tell_choice" my et) (N7:Mf K bZ "__init__" "Walk.__init__" yC nM) (N6:Mf K bZ "take" "Walk.take" yB nL) (Bm:Mf K bZ "take_within" "Walk.take_within" nh eR) (Ep:Mf K bZ "add_parts" "Walk.add_parts" pA gA) (CA:Mf K bZ "take_bytes" "Walk.take_bytes" nX ft) (Bo:Mf K bZ "take_choice" "Walk.take_choice" nj eT) (zF:Mf K bZ "take_message" "Walk.take_message" mh d9) (Bn:Mf K bZ "take_fields" "Walk.take_fields" jH eS) (FP:Mf K bZ "take_all" "Walk.take_all" qV il) (JZ:Mf K bM "__init__" "Search.__init__" pV ku) (FT:Mf K bM "gather" "Search.gather" qY ir) (Er:Mf K bM "add_way" "Search.add_way" lI gB) (zH:Mf K bM "make_ready" "Search.make_ready" mq eg) (FR:Mf K bM "row_by" "Search.row_by" qX iq) (wG:Mf K bM "earliest_rows" "Search.earliest_rows" jI di) (FQ:Mf K bM "settle" "Search.settle" qW ip) (zG:Mf K bM "settle_all" "Search.settle_all" mi ee) (Mp:Mf K iM "__init__" "Least.__init__" wB lR) (zJ:Mf K iM "message_for" "Least.message_for" mv el) (Es:Mf K bH "__init__" "Questions.__init__" pB gC) (CC:Mf K bH "begin" "Questions.begin" nZ fw) (zI:Mf K bH "refusal" "Questions.refusal" mr eh) (xI:Mf K bH "answer_is" "Questions.answer_is" kE dE) (u9:Mf K bH "answer_some" "Questions.answer_some" jl c9) (tS:Mf K bH "answer_within" "Questions.answer_within" hU cU) (J0:Mf K c8 "__init__" "Reader.__init__" uC kx) (CB:Mf K c8 "has_more" "Reader.has_more" nY fu) (FU:Mf K c8 "number" "Reader.number" qZ fF) (Mo:Mf K c8 "row" "Reader.row" wA lQ) (MV:bj K mainGlobals "MOST_FORMS"=some (some lC)) (LQ:RelV (.int (16)) lC) (II:bj K mainGlobals "HIGHEST_FORM"=some (some ji)) (G6:RelV (.int (15)) ji) (MW:bj K mainGlobals "MOST_BYTES"=some (some lD)) (LR:RelV (.int (100)) lD) (IG:bj K mainGlobals "LONGEST_LIST"=some (some jg)) (G3:RelV (.int (32)) jg) (MU:bj K mainGlobals "MOST_NAMES"=some (some lB)) (LP:RelV (.int (8)) lB) (IH:bj K mainGlobals "HIGHEST_NAME"=some (some jh)) (G4:RelV (.int (63)) jh) (Gh:bj K mainGlobals "OUT_OF_BOUNDS"=some (some ib)) (FE:RelV (.int (-22)) ib) (Sz:bj K mainGlobals "NO_ROOM"=some (some sm)) (RQ:RelV (.int (-28)) sm) (OU:bj K mainGlobals "NUM_forms"=some (some nD)) (NI:RelV (.int (0)) nD) (MS:bj K mainGlobals "TEXT_forms"=some (some lz)) (LN:RelV (.int (1)) lz) (MX:bj K mainGlobals "LIST_forms"=some (some lE)) (LS:RelV (.int (2)) lE) (IE:bj K mainGlobals "RECORD_forms"=some (some je)) (G1:RelV (.int (3)) je) (IK:bj K mainGlobals "CHOICE_forms"=some (some jk)) (G8:RelV (.int (4)) jk) (MT:bj K mainGlobals "MOST_PARTS"=some (some lA)) (LO:RelV (.int (200)) lA) (IJ:bj K mainGlobals "HIGHEST_BYTE"=some (some jj)) (G7:RelV (.int (255)) jj) (SD:bj K mainGlobals "MESSAGE"=some (some su)) (RS:RelV (.int (0)) su) (UQ:bj K mainGlobals "FIELDS"=some (some uX)) (S7:RelV (.int (1)) uX) (SA:bj K mainGlobals "NO_FORM"=some (some so)) (RR:RelV (.int (-1)) so) (Gi:bj K mainGlobals "NO_FORM_THERE"=some (some ic)) (FF:RelV (.int (-2)) ic) (IF:bj K mainGlobals "NOT_ALL_TOLD"=some (some jf)) (G2:RelV (.int (-61)) jf) (ES:bj K mainGlobals "HAS_NO_MESSAGE"=some (some gx)) (D0:RelV (.int (-6)) gx) (Wg:bj K mainGlobals "BEGIN"=some (some zc)) (Vw:RelV (.int (0)) zc) (QD:bj K mainGlobals "NUM_desk"=some (some pd)) (PM:RelV (.int (1)) pd) (OT:bj K mainGlobals "TEXT_desk"=some (some nB)) (NH:RelV (.int (2)) nB) (OV:bj K mainGlobals "LIST_desk"=some (some nE)) (NJ:RelV (.int (3)) nE) (Kl:bj K mainGlobals "RECORD_desk"=some (some j9)) (JB:RelV (.int (4)) j9) (Km:bj K mainGlobals "CHOICE_desk"=some (some ka)) (JC:RelV (.int (5)) ka) (acV:bj K mainGlobals "IS"=some (some RT)) (aaF:RelV (.int (6)) RT) (Yl:bj K mainGlobals "SOME"=some (some D1)) (Xa:RelV (.int (7)) D1) (UP:bj K mainGlobals "WITHIN"=some (some uW)) (S6:RelV (.int (8)) uW) (Vt:bj K mainGlobals "range"=some none) (YK:bj K mainGlobals "max"=some none) (W8:bj K mainGlobals "dict"=some none) (YL:bj K mainGlobals "len"=some none) (W7:bj K mainGlobals "list"=some none) (Vs:bj K mainGlobals "tuple"=some none)
 :∃ t:Adr,Txt K mg t:=by
 obtain⟨Wq,dA,VZ,V2⟩:=VJ
 obtain⟨Yy,cN,XG,XR⟩:=Xs
 obtain⟨Vf,bU,T4,Uh⟩:=Tv
 obtain⟨Wo,oP,VY,V1⟩:=VI
 obtain⟨Pl,cJ,Oy,OJ⟩:=N8
 obtain⟨Vg,cC,T5,Ui⟩:=Tw
 obtain⟨Ko,mK,kD⟩:=JW
 obtain⟨Pj,qA,qH⟩:=N4
 obtain⟨Nf,om,oJ⟩:=Mj
 obtain⟨Nc,oh,oH⟩:=Mh
 obtain⟨E2,jr,gF⟩:=Eo
 obtain⟨Jh,k8,jA⟩:=HD
 obtain⟨Dq,iE,iN⟩:=Cy
 obtain⟨BM,gN,gT⟩:=Bl
 obtain⟨z8,fN,fX⟩:=zE
 obtain⟨Ph,qz,nP⟩:=N3
 obtain⟨Nd,oj,oI⟩:=Mi
 obtain⟨Ve,yW,lj⟩:=Tu
 obtain⟨SR,vD,sD⟩:=R8
 obtain⟨QP,tm,pO⟩:=Qa
 obtain⟨QQ,tp,lh⟩:=Qb
 obtain⟨Nb,og,lY⟩:=Mg
 obtain⟨Ng,oo,lZ⟩:=Mm
 obtain⟨Gp,jS,fG⟩:=FL
 obtain⟨Kn,mJ,iZ⟩:=JV
 obtain⟨Gq,jT,fH⟩:=FN
 obtain⟨BL,gM,gS⟩:=Bk
 obtain⟨z6,fL,fV⟩:=zC
 obtain⟨BK,gL,gR⟩:=Bi
 obtain⟨z7,fM,fW⟩:=zD
 obtain⟨Dr,iF,iO⟩:=Cz
 obtain⟨Jg,k7,lg⟩:=HC
 obtain⟨xN,eE,eI⟩:=xG
 obtain⟨xO,eF,eJ⟩:=xH
 obtain⟨Jf,k6,lb⟩:=HB
 obtain⟨SQ,vC,vS⟩:=R7
 obtain⟨Nh,oq,oK⟩:=Mn
 obtain⟨Kq,mM,mT⟩:=JX
 obtain⟨Pk,qB,qI⟩:=N5
 obtain⟨Gr,jU,j3⟩:=FO
 obtain⟨Kr,mO,mU⟩:=JY
 obtain⟨SU,sC,vT⟩:=R9
 obtain⟨Dx,ox,sj⟩:=Mr
 obtain⟨AM,mR,mV⟩:=J1
 obtain⟨vL,jw,jE⟩:=Eu
 obtain⟨k9,de,dg⟩:=sO
 obtain⟨Du,ow,oN⟩:=Mq
 obtain⟨vK,jv,jD⟩:=Et
 obtain⟨uj,iJ,iS⟩:=CD
 obtain⟨uk,iK,iT⟩:=CF
 obtain⟨rM,fT,gb⟩:=zK
 obtain⟨rN,fU,gc⟩:=zL
 obtain⟨Fx,qD,um⟩:=N7
 obtain⟨Fw,qC,qJ⟩:=N6
 obtain⟨tu,gO,gU⟩:=Bm
 obtain⟨vH,js,jB⟩:=Ep
 obtain⟨ug,iG,iP⟩:=CA
 obtain⟨tD,gQ,gX⟩:=Bo
 obtain⟨rH,fO,fY⟩:=zF
 obtain⟨tw,gP,gW⟩:=Bn
 obtain⟨xy,jV,j4⟩:=FP
 obtain⟨AK,mP,pY⟩:=JZ
 obtain⟨xC,jY,j7⟩:=FT
 obtain⟨vI,jt,jC⟩:=Er
 obtain⟨rJ,fQ,f6⟩:=zH
 obtain⟨xB,jX,j6⟩:=FR
 obtain⟨oA,dX,dZ⟩:=wG
 obtain⟨xA,jW,j5⟩:=FQ
 obtain⟨rI,fP,fZ⟩:=zG
 obtain⟨Dt,ou,si⟩:=Mp
 obtain⟨rL,fS,f9⟩:=zJ
 obtain⟨vJ,ju,l3⟩:=Es
 obtain⟨ui,iI,iR⟩:=CC
 obtain⟨rK,fR,f7⟩:=zI
 obtain⟨o5,eG,eK⟩:=xI
 obtain⟨nN,dR,dU⟩:=u9
 obtain⟨l6,dn,dw⟩:=tS
 obtain⟨AL,mQ,pZ⟩:=J0
 obtain⟨uh,iH,iQ⟩:=CB
 obtain⟨xD,iu,j8⟩:=FU
 obtain⟨Ds,ot,oM⟩:=Mo
 exact⟨⟨ko,nH,lN,lL,gz,jq,fo,eQ,d8,nG,lM,vB,sy,pM,pN,lK,lO,ig,km,ij,eP,d6,eO,d7,fq,jo,dC,dD,jn,sx,lP,kq,nJ,ik,kr,sA,lT,kz,gE,cQ,lS,gD,fz,fA,er,et,nM,nL,eR,gA,ft,eT,d9,eS,il,ku,ir,gB,eg,iq,di,ip,ee,lR,el,gC,fw,eh,dE,c9,cU,kx,fu,fF,lQ,mK,qA,om,oh,jr,k8,iE,gN,fN,qz,oj,yW,vD,tm,tp,og,oo,jS,mJ,jT,gM,fL,gL,fM,iF,k7,eE,eF,k6,vC,oq,mM,qB,jU,mO,sC,ox,mR,jw,de,ow,jv,iJ,iK,fT,fU,qD,qC,gO,js,iG,gQ,fO,gP,jV,mP,jY,jt,fQ,jX,dX,jW,fP,ou,fS,ju,iI,fR,eG,dR,dn,mQ,iH,iu,ot,cX,bZ,bM,iM,bH,c8,lC,ji,lD,jg,lB,jh,ib,sm,nD,lz,lE,je,jk,lA,jj,su,uX,so,ic,jf,gx,zc,pd,nB,nE,j9,ka,RT,D1,uW⟩,⟨kD,kD.binds (ps:=["number"]) (by walk_at "b1"),aD X G Ko,qH,qH.binds (ps:=["row"]) (by walk_at "b1"),aD X G Pj,oJ,oJ.binds (ps:=["row"]) (by walk_at "b1"),aD X G Nf,oH,oH.binds (ps:=["names"]) (by walk_at "b1"),aD X G Nc,gF,gF.binds (ps:=["names"]) (by walk_at "b1"),aD X G E2,jA,jA.binds (ps:=["numbers"]) (by walk_at "b1"),aD X G Jh,iN,iN.binds (ps:=["fields"]) (by walk_at "b1"),aD X G Dq,gT,gT.binds (ps:=["choices"]) (by walk_at "b1"),aD X G BM,fX,fX.binds (ps:=["form"]) (by walk_at "b1"),aD X G z8,nP,nP.binds (ps:=["fields"]) (by walk_at "b1"),aD X G Ph,oI,oI.binds (ps:=["told","number","numbers"]) (by walk_at "b3"),aD X G Nd,lj,lj.binds (ps:=["number"]) (by walk_at "b1"),aD X G Ve,sD,sD.binds (ps:=["value"]) (by walk_at "b1"),aD X G SR,pO,pO.binds (ps:=["size"]) (by walk_at "b1"),aD X G QP,lh,lh.binds (ps:=["wants"]) (by walk_at "b1"),aD X G QQ,lY,lY.binds (ps:=["named_wants"]) (by walk_at "b1"),aD X G Nb,lZ,lZ.binds (ps:=["name","want"]) (by walk_at "b2"),aD X G Ng,fG,fG.binds (ps:=["fields"]) (by walk_at "b1"),aD X G Gp,iZ,iZ.binds (ps:=["form"]) (by walk_at "b1"),aD X G Kn,fH,fH.binds (ps:=["lo","hi","other_lo","other_hi"]) (by walk_at "b4"),aD X G Gq,gS,gS.binds (ps:=["form","other"]) (by walk_at "b2"),aD X G BL,fV,fV.binds (ps:=["form","other"]) (by walk_at "b2"),aD X G z6,gR,gR.binds (ps:=["form","other"]) (by walk_at "b2"),aD X G BK,fW,fW.binds (ps:=["form","other"]) (by walk_at "b2"),aD X G z7,iO,iO.binds (ps:=["fields","other_fields"]) (by walk_at "b2"),aD X G Dr,lg,lg.binds (ps:=["fields","name","want"]) (by walk_at "b3"),aD X G Jg,eI,eI.binds (ps:=["form","other"]) (by walk_at "b2"),aD X G xN,eJ,eJ.binds (ps:=["form","other"]) (by walk_at "b2"),aD X G xO,lb,lb.binds (ps:=["form","other"]) (by walk_at "b2"),aD X G Jf,vS,vS.binds (ps:=["told","want"]) (by walk_at "b2"),aD X G SQ,oK,oK.binds (ps:=["reader","forms"]) (by walk_at "b2"),aD X G Nh,mT,mT.binds (ps:=["reader","forms"]) (by walk_at "b2"),aD X G Kq,qI,qI.binds (ps:=["reader","questions"]) (by walk_at "b2"),aD X G Pk,j3,j3.binds (ps:=["reader","questions"]) (by walk_at "b2"),aD X G Gr,mU,mU.binds (ps:=["reader","forms","questions"]) (by walk_at "b3"),aD X G Kr,vT,vT.binds (ps:=["calls"]) (by walk_at "b1"),aD X G SU,sj,sj.binds (ps:=["self"]) (by walk_at "b1"),mV,mV.binds (ps:=["self"]) (by walk_at "b1"),⟨AM.1,AM.2,mV.kp⟩,jE,jE.binds (ps:=["self","number"]) (by walk_at "b2"),⟨vL.1,vL.2,jE.kp⟩,dg,dg.binds (ps:=["self"]) (by walk_at "b1"),⟨k9.1,k9.2,dg.kp⟩,oN,oN.binds (ps:=["self","form"]) (by walk_at "b2"),⟨Du.1,Du.2,oN.kp⟩,jD,jD.binds (ps:=["self","lo","hi"]) (by walk_at "b3"),⟨vK.1,vK.2,jD.kp⟩,iS,iS.binds (ps:=["self","most"]) (by walk_at "b2"),⟨uj.1,uj.2,iS.kp⟩,iT,iT.binds (ps:=["self","of","lo","hi"]) (by walk_at "b4"),⟨uk.1,uk.2,iT.kp⟩,gb,gb.binds (ps:=["self","row"]) (by walk_at "b2"),⟨rM.1,rM.2,gb.kp⟩,gc,gc.binds (ps:=["self","row"]) (by walk_at "b2"),⟨rN.1,rN.2,gc.kp⟩,um,um.binds (ps:=["self","told","numbers"]) (by walk_at "b3"),qJ,qJ.binds (ps:=["self"]) (by walk_at "b1"),⟨Fw.1,Fw.2,qJ.kp⟩,gU,gU.binds (ps:=["self","lo","hi"]) (by walk_at "b3"),⟨tu.1,tu.2,gU.kp⟩,jB,jB.binds (ps:=["self","more"]) (by walk_at "b2"),⟨vH.1,vH.2,jB.kp⟩,iP,iP.binds (ps:=["self","most"]) (by walk_at "b2"),⟨ug.1,ug.2,iP.kp⟩,gX,gX.binds (ps:=["self","choices"]) (by walk_at "b2"),⟨tD.1,tD.2,gX.kp⟩,fY,fY.binds (ps:=["self","form"]) (by walk_at "b2"),⟨rH.1,rH.2,fY.kp⟩,gW,gW.binds (ps:=["self","fields","left"]) (by walk_at "b3"),⟨tw.1,tw.2,gW.kp⟩,j4,j4.binds (ps:=["self","number"]) (by walk_at "b2"),⟨xy.1,xy.2,j4.kp⟩,pY,pY.binds (ps:=["self","told","known"]) (by walk_at "b3"),j7,j7.binds (ps:=["self","want"]) (by walk_at "b2"),⟨xC.1,xC.2,j7.kp⟩,jC,jC.binds (ps:=["self","want","way"]) (by walk_at "b3"),⟨vI.1,vI.2,jC.kp⟩,f6,f6.binds (ps:=["self","place"]) (by walk_at "b2"),⟨rJ.1,rJ.2,f6.kp⟩,j6,j6.binds (ps:=["self","way"]) (by walk_at "b2"),⟨xB.1,xB.2,j6.kp⟩,dZ,dZ.binds (ps:=["self","parts"]) (by walk_at "b2"),⟨oA.1,oA.2,dZ.kp⟩,j5,j5.binds (ps:=["self","parts"]) (by walk_at "b2"),⟨xA.1,xA.2,j5.kp⟩,fZ,fZ.binds (ps:=["self"]) (by walk_at "b1"),⟨rI.1,rI.2,fZ.kp⟩,si,si.binds (ps:=["self","told"]) (by walk_at "b2"),f9,f9.binds (ps:=["self","want"]) (by walk_at "b2"),⟨rL.1,rL.2,f9.kp⟩,l3,l3.binds (ps:=["self","forms"]) (by walk_at "b2"),iR,iR.binds (ps:=["self"]) (by walk_at "b1"),⟨ui.1,ui.2,iR.kp⟩,f7,f7.binds (ps:=["self","numbers"]) (by walk_at "b2"),⟨rK.1,rK.2,f7.kp⟩,eK,eK.binds (ps:=["self","number","numbers"]) (by walk_at "b3"),⟨o5.1,o5.2,eK.kp⟩,dU,dU.binds (ps:=["self","number"]) (by walk_at "b2"),⟨nN.1,nN.2,dU.kp⟩,dw,dw.binds (ps:=["self","number","other"]) (by walk_at "b3"),⟨l6.1,l6.2,dw.kp⟩,pZ,pZ.binds (ps:=["self","calls"]) (by walk_at "b2"),iQ,iQ.binds (ps:=["self"]) (by walk_at "b1"),⟨uh.1,uh.2,iQ.kp⟩,j8,j8.binds (ps:=["self"]) (by walk_at "b1"),⟨xD.1,xD.2,j8.kp⟩,oM,oM.binds (ps:=["self"]) (by walk_at "b1"),⟨Ds.1,Ds.2,oM.kp⟩,dA,aD X G Wq,⟨VZ,Dx.1,Dx.2,V2⟩,Kd,cN,aD X G Yy,⟨XG,Fx.1,Fx.2,XR⟩,MA,FY,Ka,Kb,Om,bU,aD X G Vf,⟨T4,AK.1,AK.2,Uh⟩,Ie,F0,Ic,CS,CQ,FZ,oP,aD X G Wo,⟨VY,Dt.1,Dt.2,V1⟩,Kc,Ig,cJ,aD X G Pl,⟨Oy,vJ.1,vJ.2,OJ⟩,By,Bx,cC,aD X G Vg,⟨T5,AL.1,AL.2,Ui⟩,F6,F5,aD X G MV,LQ,aD X G II,G6,aD X G MW,LR,aD X G IG,G3,aD X G MU,LP,aD X G IH,G4,aD X G Gh,FE,aD X G Sz,RQ,aD X G OU,NI,aD X G MS,LN,aD X G MX,LS,aD X G IE,G1,aD X G IK,G8,aD X G MT,LO,aD X G IJ,G7,aD X G SD,RS,aD X G UQ,S7,aD X G SA,RR,aD X G Gi,FF,aD X G IF,G2,aD X G ES,D0,aD X G Wg,Vw,aD X G QD,PM,aD X G OT,NH,aD X G OV,NJ,aD X G Kl,JB,aD X G Km,JC,aD X G acV,aaF,aD X G Yl,Xa,aD X G UP,S6,jQ X G Vt,jQ X G YK,jQ X G W8,jQ X G YL,jQ X G W7,jQ X G Vs⟩⟩
end U
namespace KpFix
open Kp190
def cut (p:Nat) (x:Best):Best:=match x with
 | some y=>if y.1≤p then some y else none
 | none=>none
theorem iL (p:Nat):cut p none=none:=rfl
theorem bO {p:Nat}{y:Nat×Row} (h:y.1≤p):cut p (some y)=some y:=if_pos h
theorem cD {p:Nat}{y:Nat×Row} (h:¬ y.1≤p):cut p (some y)=none:=if_neg h
theorem dQ (x:Best):held x=cut PARTS x:=by
 cases x<;>rfl
theorem RC (p q:Nat) (h:p≤q) (x:Best):cut p (cut q x)=cut p x:=by
 cases x with
 | none=>rfl
 | some y=>
   by_cases k:y.1≤q
   ·rw[bO k]
   ·rw[cD k,iL,cD (by omega)]
theorem Dk (p q:Nat) (x:Best):cut p (cut q x)=cut q (cut p x):=by
 cases x with
 | none=>rfl
 | some y=>
   by_cases k:y.1≤q<;>by_cases j:y.1≤p
   ·rw[bO k,bO j,bO k]
   ·rw[bO k,cD j,iL]
   ·rw[cD k,iL,bO j,cD k]
   ·rw[cD k,iL,cD j,iL]
theorem U1 {p q:Nat} (h:p≤q) {x y:Best} (e:cut q x=cut q y):cut p x=cut p y:=by
 rw[← RC p q h x,e,RC p q h y]
theorem U3 {x y:Best} (h:∀ p,cut p x=cut p y):x=y:=by
 cases x with
 | none=>
   cases y with
   | none=>rfl
   | some b=>
     have:=h b.1
     rw[iL,bO (aB _)] at this
     exact this
 | some a=>
   cases y with
   | none=>
     have:=h a.1
     rw[iL,bO (aB _)] at this
     exact this
   | some b=>
     have:=h (a.1+b.1)
     rw[bO (by omega),bO (by omega)] at this
     exact this
def ge (x y:Best):Prop:=∀ a,x=some a→∃ b,y=some b∧b.1≤a.1
theorem kL (x:Best):ge x x:=fun a e=>⟨a,e,aB _⟩
theorem Rp (y:Best):ge none y:=fun _ e=>nomatch e
theorem Yk {x y:Best} (h:ge x y) (p:Nat):ge (cut p x) (cut p y):=by
 intro a e
 cases x with
 | none=>cases e
 | some z=>
   by_cases k:z.1≤p
   ·rw[bO k] at e
    obtain⟨b,e1,h1⟩:=h z rfl
    subst e1
    obtain rfl:=aa e
    exact⟨b,bO (by omega),h1⟩
   ·rw[cD k] at e
    cases e
theorem nF (b:Best):lesser none b=b:=rfl
theorem kj (a:Best):lesser a none=a:=by cases a<;>rfl
theorem gu (x y:Nat×Row):lesser (some x) (some y)=if y.1 < x.1 then some y else if x.1 < y.1 then some x else if earlier y.2 x.2 then some y else some x:=rfl
theorem IZ (p:Nat) (a b:Best):cut p (lesser a b)=lesser (cut p a) (cut p b):=by
 cases a with
 | none=>rw[nF,iL,nF]
 | some x=>
   cases b with
   | none=>rw[kj,iL,kj]
   | some y=>
     by_cases hx:x.1≤p<;>by_cases hy:y.1≤p
     ·rw[bO hx,bO hy,gu]
      split
      ·exact bO hy
      ·split
       ·exact bO hx
       ·split
        ·exact bO hy
        ·exact bO hx
     ·rw[bO hx,cD hy,kj,gu,if_neg (by omega),if_pos (by omega)]
      exact bO hx
     ·rw[cD hx,bO hy,nF,gu,if_pos (by omega)]
      exact bO hy
     ·rw[cD hx,cD hy,nF,gu]
      split
      ·exact cD hy
      ·split
       ·exact cD hx
       ·split
        ·exact cD hy
        ·exact cD hx
theorem Sy {a a' b b':Best} (ha:ge a a') (hb:ge b b'):ge (lesser a b) (lesser a' b'):=by
 have key:∀ (x y:Best) (z:Nat×Row),lesser x y=some z→x=some z∨y=some z:=by
  intro x y z e
  cases x with
  | none=>exact .inr e
  | some u=>
    cases y with
    | none=>exact .inl e
    | some v=>
      rw[gu] at e
      split at e
      ·exact .inr e
      ·split at e
       ·exact .inl e
       ·split at e
        ·exact .inr e
        ·exact .inl e
 have ab7:∀ (x y:Best) (z:Nat×Row),x=some z→∃ u,lesser x y=some u∧u.1≤z.1:=by
  intro x y z e
  subst e
  cases y with
  | none=>exact⟨z,kj _,aB _⟩
  | some v=>
    rw[gu]
    split
    ·exact⟨v,rfl,by omega⟩
    ·split
     ·exact⟨z,rfl,by omega⟩
     ·split
      ·exact⟨v,rfl,by omega⟩
      ·exact⟨z,rfl,by omega⟩
 have ab6:∀ (x y:Best) (z:Nat×Row),y=some z→∃ u,lesser x y=some u∧u.1≤z.1:=by
  intro x y z e
  subst e
  cases x with
  | none=>exact⟨z,rfl,aB _⟩
  | some v=>
    rw[gu]
    split
    ·exact⟨z,rfl,by omega⟩
    ·split
     ·exact⟨v,rfl,by omega⟩
     ·split
      ·exact⟨z,rfl,by omega⟩
      ·exact⟨v,rfl,by omega⟩
 intro z e
 rcases key a b z e with q | q
 ·obtain⟨w,e1,h1⟩:=ha z q
  obtain⟨u,e2,h2⟩:=ab7 a' b' w e1
  exact⟨u,e2,by omega⟩
 ·obtain⟨w,e1,h1⟩:=hb z q
  obtain⟨u,e2,h2⟩:=ab6 a' b' w e1
  exact⟨u,e2,by omega⟩
inductive Two {α β:Type} (R:α→β→Prop):List α→List β→Prop
 | nil:Two R [] []
 | cons {a b as bs}:R a b→Two R as bs→Two R (a::as) (b::bs)
theorem Two.map {α β γ:Type}{R:β→γ→Prop} (f:α→β) (g:α→γ):∀ (l:List α),(∀ x∈l,R (f x) (g x))→Two R (l.map f) (l.map g)
 | [],_=>.nil
 | x::l,h=>.cons (h x (aI ..)) (Two.map f g l fun y hy=>h y (aG _ hy))
theorem Two.append {α β:Type}{R:α→β→Prop}:∀ {a:List α}{b:List β}{c:List α}{d:List β},Two R a b→Two R c d→Two R (a++c) (b++d)
 | _,_,_,_,.nil,h=>h
 | _,_,_,_,.cons r t,h=>.cons r (Two.append t h)
theorem Two.len {α β:Type}{R:α→β→Prop}:∀ {a:List α}{b:List β},Two R a b→a.length=b.length
 | _,_,.nil=>rfl
 | _,_,.cons _ t=>congrArg (·+1) t.len
theorem Two.rep {α β:Type}{R:α→β→Prop}{x:α}{y:β} (h:R x y):∀ n,Two R (aj n x) (aj n y)
 | 0=>.nil
 | n+1=>.cons h (Two.rep h n)
theorem yS (p:Nat):∀ {l l':List Best},Two (fun x y=>cut p x=cut p y) l l'→∀ a a',cut p a=cut p a'→cut p (l.foldl lesser a)=cut p (l'.foldl lesser a')
 | _,_,.nil,a,a',h=>h
 | _,_,.cons r t,a,a',h=>yS p t _ _ (by rw[IZ,IZ,h,r])
theorem sv (p:Nat) {l l':List Best} (h:Two (fun x y=>cut p x=cut p y) l l'):cut p (least l)=cut p (least l'):=yS p h _ _ rfl
theorem AE:∀ {l l':List Best},Two ge l l'→∀ a a',ge a a'→ge (l.foldl lesser a) (l'.foldl lesser a')
 | _,_,.nil,a,a',h=>h
 | _,_,.cons r t,a,a',h=>AE t _ _ (Sy h r)
theorem C7 {l l':List Best} (h:Two ge l l'):ge (least l) (least l'):=AE h _ _ (kL _)
def put (a:Best) (x:Row×Best):Best:=match a,x.2 with
 | some p,some q=>some (p.1+q.1,p.2++(x.1++q.2))
 | _,_=>none
def comp (h:Row) (l:List (Row×Best)):Best:=held (l.foldl put (some (1,h)))
theorem va (x:Row×Best):put none x=none:=by
 unfold put
 cases x.2<;>rfl
theorem ie:∀ l:List (Row×Best),l.foldl put none=none
 | []=>rfl
 | x::l=>by rw[bu,va,ie l]
theorem tf:∀ (l:List (Row×Best)) (a:Nat) (r:Row) (z:Nat×Row),l.foldl put (some (a,r))=some z→a≤z.1
 | [],a,r,z,e=>by
   obtain rfl:=aa e
   exact aB _
 | (h,none)::l,a,r,z,e=>by
   rw[bu] at e
   have:put (some (a,r)) (h,none)=none:=rfl
   rw[this,ie] at e
   cases e
 | (h,some q)::l,a,r,z,e=>by
   rw[bu] at e
   have:=tf l _ _ z e
   omega
def Vj (p:Nat) (x y:Row×Best):Prop:=x.1=y.1∧cut p x.2=cut p y.2
theorem IM (p:Nat):∀ {l l':List (Row×Best)},Two (Vj p) l l'→∀ (a:Nat) (r:Row),cut (p+a) (l.foldl put (some (a,r)))=cut (p+a) (l'.foldl put (some (a,r)))
 | _,_,.nil,a,r=>rfl
 | _,_,@Two.cons _ _ _ (h,x) (h',y) l l' e t,a,r=>by
   obtain⟨e1,e2⟩:=e
   have e1:h=h':=e1
   subst e1
   have e2:cut p x=cut p y:=e2
   rw[bu,bu]
   have big:∀ (q:Nat×Row) (l:List (Row×Best)),¬ q.1≤p→cut (p+a) (l.foldl put (put (some (a,r)) (h,some q)))=none:=by
    intro q l hq
    have e:put (some (a,r)) (h,some q)=some (a+q.1,r++(h++q.2)):=rfl
    rw[e]
    cases k:l.foldl put (some (a+q.1,r++(h++q.2))) with
    | none=>rfl
    | some z=>
      have:=tf l _ _ z k
      exact cD (by omega)
   have non:∀ (l:List (Row×Best)),l.foldl put (put (some (a,r)) (h,none))=none:=fun l=>ie l
   cases x with
   | none=>
     rw[non,iL]
     cases y with
     | none=>rw[non,iL]
     | some q=>
       by_cases hq:q.1≤p
       ·rw[iL,bO hq] at e2
        cases e2
       ·rw[big q _ hq]
   | some q=>
     by_cases hq:q.1≤p
     ·rw[bO hq] at e2
      cases y with
      | none=>rw[iL] at e2;cases e2
      | some q'=>
        by_cases hq':q'.1≤p
        ·rw[bO hq'] at e2
         obtain rfl:=aa e2
         have e:put (some (a,r)) (h,some q)=some (a+q.1,r++(h++q.2)):=rfl
         rw[e]
         exact U1 (by omega) (IM p t (a+q.1) (r++(h++q.2)))
        ·rw[cD hq'] at e2
         cases e2
     ·rw[big q _ hq]
      cases y with
      | none=>rw[non,iL]
      | some q'=>
        by_cases hq':q'.1≤p
        ·rw[cD hq,bO hq'] at e2
         cases e2
        ·rw[big q' _ hq']
theorem Ja {p:Nat}{h:Row}{l l':List (Row×Best)} (t:Two (Vj p) l l'):cut (p+1) (comp h l)=cut (p+1) (comp h l'):=by
 unfold comp
 rw[dQ,dQ,Dk,Dk _ PARTS,IM p t 1 h]
def More (x y:Row×Best):Prop:=ge x.2 y.2
theorem Rq:∀ {l l':List (Row×Best)},Two More l l'→∀ (a a':Nat) (r r':Row),a'≤a→ge (l.foldl put (some (a,r))) (l'.foldl put (some (a',r')))
 | _,_,.nil,a,a',r,r',h=>fun z e=>⟨_,rfl,by obtain rfl:=aa e;exact h⟩
 | _,_,@Two.cons _ _ _ (h,none) (h',y) l l' e t,a,a',r,r',ha=>by
   rw[bu]
   have:put (some (a,r)) (h,none)=none:=rfl
   rw[this,ie]
   exact Rp _
 | _,_,@Two.cons _ _ _ (h,some x) (h',y) l l' e t,a,a',r,r',ha=>by
   obtain⟨q,e1,e2⟩:=e x rfl
   have e1:y=some q:=e1
   subst e1
   rw[bu,bu]
   exact Rq t _ _ _ _ (by show a'+q.1≤a+x.1;omega)
theorem M6 {h h':Row}{l l':List (Row×Best)} (t:Two More l l'):ge (comp h l) (comp h' l'):=by
 unfold comp
 rw[dQ,dQ]
 exact Yk (Rq t _ _ _ _ (aB _)) _
theorem QJ {h:Row}{l:List (Row×Best)}{z:Nat×Row} (e:comp h l=some z):1≤z.1∧z.1≤PARTS:=by
 unfold comp at e
 rw[dQ] at e
 cases k:l.foldl put (some (1,h)) with
 | none=>rw[k] at e;cases e
 | some y=>
   rw[k] at e
   have h1:=tf l _ _ y k
   by_cases h2:y.1≤PARTS
   ·rw[bO h2] at e
    obtain rfl:=aa e
    exact⟨h1,h2⟩
   ·rw[cD h2] at e
    cases e
theorem c6 (l:List Best):listOf l=comp [2,l.length] (l.map fun x=>([],x)):=by
 unfold listOf comp
 rw[List.foldl_map]
 rfl
def here (l:List (Nat×Option Best)):List (Row×Best):=l.filterMap fun x=>x.2.map fun v=>([x.1],v)
theorem eX (l:List (Nat×Option Best)):recordOf l=comp [3,(here l).length] (here l):=by
 unfold recordOf comp here
 have e:(l.filterMap fun x=>x.2.map fun v=>([x.1],v))=(l.filterMap fun x=>x.2.map fun v=>(x.1,v)).map (fun y=>(([y.1]:Row),y.2)):=by
  rw[List.map_filterMap]
  congr
  funext x
  cases x.2<;>rfl
 rw[e,List.foldl_map,ae]
 rfl
theorem iY (n:Nat) (x:Best):choiceOf n x=comp [4] [([n],x)]:=by
 cases x with
 | none=>rfl
 | some y=>
   show held (some (y.1+1,4::n::y.2))=held (some (1+y.1,[4]++([n]++y.2)))
   rw[Nat.add_comm]
   rfl
end KpFix
namespace KpFix
open Kp190
structure jc (N:Nat) (F:Table→Table):Prop where
 len:∀ w,(F w).length=N
 parts:∀ w i z,get (F w) i=some z→1≤z.1∧z.1≤PARTS
 Wl:∀ p w w',(∀ i,cut p (get w i)=cut p (get w' i))→∀ i,cut (p+1) (get (F w) i)=cut (p+1) (get (F w') i)
 mono:∀ w w',(∀ i,ge (get w i) (get w' i))→∀ i,ge (get (F w) i) (get (F w') i)
def iter (F:Table→Table):Nat→Table→Table
 | 0,w=>w
 | k+1,w=>iter F k (F w)
theorem jm (F:Table→Table):∀ k w,iter F (k+1) w=F (iter F k w)
 | 0,_=>rfl
 | k+1,w=>jm F k (F w)
theorem OS {w:Table}{i:Nat} (h:w.length≤i):get w i=none:=by
 unfold Kp190.get
 rw[cf,qN h]
 rfl
theorem KY {w v:Table} (hl:w.length=v.length) (h:∀ i,get w i=get v i):w=v:=by
 apply List.ext_getElem hl
 intro i h1 h2
 have:=h i
 unfold Kp190.get at this
 rw[cf,cf,aK h1,aK h2] at this
 exact this
theorem LC {α:Type}{p q:α→Bool}:∀ {l:List α},(∀ x∈l,p x=true→q x=true)→(∃ x∈l,q x=true∧p x=false)→l.countP p < l.countP q
 | [],_,⟨_,h,_⟩=>by cases h
 | a::l,h,⟨x,hx,h1,h2⟩=>by
   have mono:l.countP p≤l.countP q:=List.countP_mono_left fun y hy=>h y (aG _ hy)
   have ha:=h a (aI ..)
   rw[rB,rB]
   rcases aC.mp hx with e | m
   ·subst e
    rw[h1,h2]
    simp
    omega
   ·have ih:=LC (fun y hy=>h y (aG _ hy)) ⟨x,m,h1,h2⟩
    by_cases k:p a=true
    ·rw[if_pos k,if_pos (ha k)];omega
    ·rw[if_neg k];omega
section
variable {N:Nat}{F:Table→Table}
theorem jc.aak (G:jc N F) (w:Table) (i:Nat):cut 0 (get (F w) i)=none:=by
 cases e:get (F w) i with
 | none=>rfl
 | some z=>
   have:=G.parts w i z e
   exact cD (by omega)
theorem jc.Uj (G:jc N F) {w0:Table} (h0:∀ i,get w0 i=none):∀ p k k',p≤k→p≤k'→∀ i,cut p (get (iter F k w0) i)=cut p (get (iter F k' w0) i):=by
 intro p
 induction p with
 | zero=>
   have:∀ k i,cut 0 (get (iter F k w0) i)=none:=by
    intro k i
    cases k with
    | zero=>show cut 0 (get w0 i)=none;rw[h0];rfl
    | succ k=>rw[jm,G.aak]
   intro k k' _ _ i
   rw[this,this]
 | succ p ih=>
   intro k k' hk hk' i
   cases k with
   | zero=>omega
   | succ k=>
     cases k' with
     | zero=>omega
     | succ k'=>
       rw[jm,jm]
       exact G.Wl p _ _ (ih k k' (by omega) (by omega)) i
theorem U2 {x:Best}{p:Nat} (h:∀ z,x=some z→z.1≤p):cut p x=x:=by
 cases x with
 | none=>rfl
 | some z=>exact bO (h z rfl)
theorem jc.star (G:jc N F) {w0:Table} (h0:∀ i,get w0 i=none):F (iter F PARTS w0)=iter F PARTS w0:=by
 have e:iter F PARTS w0=F (iter F (PARTS - 1) w0):=jm F 199 w0
 refine KY ?_ fun i=>?_
 ·rw[e,G.len,G.len]
 ·have:=G.Uj h0 PARTS (PARTS+1) PARTS (by decide) (by decide) i
  rw[jm] at this
  rw[U2 fun z hz=>(G.parts _ _ _ hz).2,e,U2 fun z hz=>(G.parts _ _ _ hz).2,← e] at this
  exact this
theorem jc.above (G:jc N F) {w0 v:Table} (h0:∀ i,get w0 i=none) (hv:F v=v):∀ k i,ge (get (iter F k w0) i) (get v i):=by
 intro k
 induction k with
 | zero=>
   intro i
   show ge (get w0 i) _
   rw[h0]
   exact Rp _
 | succ k ih=>
   intro i
   have:=G.mono _ _ ih i
   rw[hv,← jm F k w0] at this
   exact this
def rank (N:Nat) (v:Table) (p:Nat):Nat:=(bS N).countP fun u=>(cut p (get v u)).isSome
theorem Qw {p:Nat}{x:Best} (h:(cut p x).isSome=true):∃ z,x=some z∧z.1≤p:=by
 cases x with
 | none=>cases h
 | some z=>
   by_cases k:z.1≤p
   ·exact⟨z,rfl,k⟩
   ·rw[cD k] at h;cases h
theorem jc.Xq (G:jc N F) {w0 v:Table} (h0:∀ i,get w0 i=none) (hv:F v=v):∀ (P:Nat) (t:Nat) (z:Nat×Row),z.1=P→get v t=some z→∀ k,rank N v P≤k→get (iter F k w0) t=some z:=by
 intro P
 induction P using Nat.strongRecOn with
 | ind P ih=>
   intro t z hz ht k hk
   have ht':get (F v) t=some z:=by rw[hv];exact ht
   have OM:=G.parts _ _ _ ht'
   have htN:t < N:=by
    rcases qd t N with h | h
    ·exact h
    ·rw[OS (by rw[G.len];exact h)] at ht'
     cases ht'
   have Ut:(cut P (get v t)).isSome=true:=by
    rw[ht,bO (by omega)]
    rfl
   have hr:0 < rank N v P:=by
    unfold rank
    rw[List.countP_pos_iff]
    exact⟨t,hX.mpr htN,Ut⟩
   cases k with
   | zero=>omega
   | succ k=>
     obtain⟨p,rfl⟩:∃ p,P=p+1:=⟨P - 1,by omega⟩
     have same:∀ i,cut p (get (iter F k w0) i)=cut p (get v i):=by
      intro i
      have ab:=G.above h0 hv k i
      cases e:get v i with
      | none=>
        cases e2:get (iter F k w0) i with
        | none=>rfl
        | some a=>
          obtain⟨b,hb,_⟩:=ab a e2
          rw[e] at hb
          cases hb
      | some y=>
        by_cases hy:y.1≤p
        ·have lt:rank N v y.1 < rank N v (p+1):=by
          refine LC (fun u _ hu=>?_) ⟨t,hX.mpr htN,Ut,?_⟩
          ·obtain⟨c,hc,hc1⟩:=Qw hu
           rw[hc,bO (by omega)]
           rfl
          ·rw[ht,cD (by omega)]
           rfl
         rw[ih y.1 (by omega) i y rfl e k (by omega)]
        ·rw[cD hy]
         cases e2:get (iter F k w0) i with
         | none=>rfl
         | some a=>
           obtain⟨b,hb,hb1⟩:=ab a e2
           rw[e] at hb
           obtain rfl:=aa hb
           exact cD (by omega)
     have:=G.Wl p _ _ same t
     rw[hv,← jm F k w0,ht,bO (by omega)] at this
     cases e:get (iter F (k+1) w0) t with
     | none=>rw[e] at this;cases this
     | some a=>
       rw[e] at this
       by_cases ha:a.1≤p+1
       ·rw[bO ha] at this
        exact this
       ·rw[cD ha] at this
        cases this
theorem jc.done (G:jc N F) {w0 v:Table} (h0:∀ i,get w0 i=none) (hl:w0.length=N) (hv:F v=v) {k:Nat} (hk:N≤k):iter F k w0=v:=by
 refine KY ?_ fun i=>?_
 ·rw[← hv,G.len]
  cases k with
  | zero=>exact hl
  | succ k=>rw[jm,G.len]
 ·cases e:get v i with
  | none=>
    cases e2:get (iter F k w0) i with
    | none=>rfl
    | some a=>
      obtain⟨b,hb,_⟩:=G.above h0 hv k i a e2
      rw[e] at hb
      cases hb
  | some z=>
    refine G.Xq h0 hv z.1 i z rfl e k (bP ?_ hk)
    unfold rank
    have:=List.countP_le_length (p:=fun u=>(cut z.1 (get v u)).isSome) (l:=bS N)
    rw[bJ] at this
    exact this
theorem jc.fixed (G:jc N F) {w0:Table} (h0:∀ i,get w0 i=none) (hl:w0.length=N) {k:Nat} (hk:N≤k):F (iter F k w0)=iter F k w0:=by
 rw[G.done h0 hl (G.star h0) hk]
 exact G.star h0
end
theorem get_map {α:Type} (f:α→Best) (l:List α) (i:Nat):get (l.map f) i=match l[i]? with
 | some x=>f x
 | none=>none:=by
 unfold Kp190.get
 rw[cf,bq]
 cases l[i]?<;>rfl
theorem xu:∀ (l:List Best) (a:Best) (z:Nat×Row),l.foldl lesser a=some z→a=some z∨some z∈l
 | [],_,_,e=>.inl e
 | x::l,a,z,e=>by
   rcases xu l _ z e with h | h
   ·cases a with
    | none=>exact .inr (by rw[nF] at h;rw[h];exact aI ..)
    | some u=>
      cases x with
      | none=>exact .inl (by rw[kj] at h;exact h)
      | some v=>
        rw[gu] at h
        split at h
        ·exact .inr (by rw[h];exact aI ..)
        ·split at h
         ·exact .inl h
         ·split at h
          ·exact .inr (by rw[h];exact aI ..)
          ·exact .inl h
   ·exact .inr (aG _ h)
theorem pL {l:List Best}{z:Nat×Row} (e:least l=some z):some z∈l:=by
 rcases xu l none z e with h | h
 ·cases h
 ·exact h
def Fit (x:Best):Prop:=∀ z,x=some z→1≤z.1∧z.1≤PARTS
theorem vA:Fit none:=fun _ e=>nomatch e
theorem IU (h:Row) (l:List (Row×Best)):Fit (comp h l):=fun _ e=>QJ e
theorem wR (l:List Best):Fit (listOf l):=by rw[c6];exact IU _ _
theorem r9 (l:List (Nat×Option Best)):Fit (recordOf l):=by rw[eX];exact IU _ _
theorem wU (n:Nat) (x:Best):Fit (choiceOf n x):=by rw[iY];exact IU _ _
theorem zh {l:List Best} (h:∀ x∈l,Fit x):Fit (least l):=fun z e=>h _ (pL e) z rfl
theorem GQ (r:Row):Fit (some (1,r)):=fun z e=>by
 obtain rfl:=aa e
 exact⟨aB _,(by decide:1≤PARTS)⟩
theorem Fs (w:Table):∀ x:Form,Fit (leastOf w x)
 | .num _ _=>GQ _
 | .text _=>GQ _
 | .list _ _ _=>wR _
 | .record _=>r9 _
 | .choice fs=>zh fun x hx=>by
   obtain⟨y,_,rfl⟩:=ay.mp hx
   exact wU _ _
def RJ (p:Nat):Option Best→Option Best→Prop
 | none,none=>True
 | some x,some y=>cut p x=cut p y
 | _,_=>False
def RI:Option Best→Option Best→Prop
 | none,none=>True
 | some x,some y=>ge x y
 | _,_=>False
theorem ER {p:Nat}:∀ {l l':List (Nat×Option Best)},Two (fun x y=>x.1=y.1∧RJ p x.2 y.2) l l'→Two (Vj p) (here l) (here l')
 | _,_,.nil=>.nil
 | _,_,@Two.cons _ _ _ (n,none) (m,none) l l' e t=>by
   have h1:here ((n,none)::l)=here l:=rfl
   have h2:here ((m,none)::l')=here l':=rfl
   rw[h1,h2]
   exact ER t
 | _,_,@Two.cons _ _ _ (n,some x) (m,some y) l l' e t=>by
   have e1:n=m:=e.1
   subst e1
   exact .cons ⟨rfl,e.2⟩ (ER t)
 | _,_,@Two.cons _ _ _ (n,none) (m,some y) l l' e t=>e.2.elim
 | _,_,@Two.cons _ _ _ (n,some x) (m,none) l l' e t=>e.2.elim
theorem EO:∀ {l l':List (Nat×Option Best)},Two (fun x y=>RI x.2 y.2) l l'→Two More (here l) (here l')
 | _,_,.nil=>.nil
 | _,_,@Two.cons _ _ _ (n,none) (m,none) l l' e t=>by
   have h1:here ((n,none)::l)=here l:=rfl
   have h2:here ((m,none)::l')=here l':=rfl
   rw[h1,h2]
   exact EO t
 | _,_,@Two.cons _ _ _ (n,some x) (m,some y) l l' e t=>.cons e (EO t)
 | _,_,@Two.cons _ _ _ (n,none) (m,some y) l l' e t=>e.elim
 | _,_,@Two.cons _ _ _ (n,some x) (m,none) l l' e t=>e.elim
theorem Cv {p:Nat}{l l':List (Nat×Option Best)} (h:Two (fun x y=>x.1=y.1∧RJ p x.2 y.2) l l'):cut (p+1) (recordOf l)=cut (p+1) (recordOf l'):=by
 have t:=ER h
 rw[eX,eX,t.len]
 exact Ja t
theorem Fe {l l':List (Nat×Option Best)} (h:Two (fun x y=>RI x.2 y.2) l l'):ge (recordOf l) (recordOf l'):=by
 rw[eX,eX]
 exact M6 (EO h)
theorem Two.mapR {α β γ δ:Type}{R:α→β→Prop}{S:γ→δ→Prop}{f:α→γ}{g:β→δ} (k:∀ a b,R a b→S (f a) (g b)):∀ {l:List α}{l':List β},Two R l l'→Two S (l.map f) (l'.map g)
 | _,_,.nil=>.nil
 | _,_,.cons r t=>.cons (k _ _ r) (t.mapR k)
theorem Iq {p:Nat}{l l':List Best} (h:Two (fun x y=>cut p x=cut p y) l l'):cut (p+1) (listOf l)=cut (p+1) (listOf l'):=by
 rw[c6,c6,h.len]
 exact Ja (Two.mapR (R:=fun x y=>cut p x=cut p y) (S:=Vj p) (f:=fun x=>([],x)) (g:=fun x=>([],x)) (fun a b r=>⟨rfl,r⟩) h)
theorem Lf {l l':List Best} (h:Two ge l l'):ge (listOf l) (listOf l'):=by
 rw[c6,c6]
 exact M6 (Two.mapR (R:=ge) (S:=More) (f:=fun x=>([],x)) (g:=fun x=>([],x)) (fun a b r=>r) h)
theorem Dn {p n:Nat}{x y:Best} (h:cut p x=cut p y):cut (p+1) (choiceOf n x)=cut (p+1) (choiceOf n y):=by
 rw[iY,iY]
 exact Ja (.cons ⟨rfl,h⟩ .nil)
theorem Fv {n:Nat}{x y:Best} (h:ge x y):ge (choiceOf n x) (choiceOf n y):=by
 rw[iY,iY]
 exact M6 (.cons h .nil)
theorem OI {p:Nat}{w v:Table} (h:∀ i,cut p (get w i)=cut p (get v i)):∀ x:Form,cut (p+1) (leastOf w x)=cut (p+1) (leastOf v x)
 | .num _ _=>rfl
 | .text _=>rfl
 | .list o lo _=>Iq (Two.rep (R:=fun x y=>cut p x=cut p y) (h o) lo)
 | .record fs=>Cv (Two.map _ _ fs fun x _=>⟨rfl,by
  show RJ p (if x.opt then none else some (get w x.of_)) (if x.opt then none else some (get v x.of_))
  split
  ·trivial
  ·exact h _⟩)
 | .choice fs=>sv _ (Two.map _ _ fs fun x _=>Dn (h _))
theorem Qt {w v:Table} (h:∀ i,ge (get w i) (get v i)):∀ x:Form,ge (leastOf w x) (leastOf v x)
 | .num _ _=>kL _
 | .text _=>kL _
 | .list o lo _=>Lf (Two.rep (h o) lo)
 | .record fs=>Fe (Two.map _ _ fs fun x _=>by
  show RI (if x.opt then none else some (get w x.of_)) (if x.opt then none else some (get v x.of_))
  split
  ·trivial
  ·exact h _)
 | .choice fs=>C7 (Two.map _ _ fs fun x _=>Fv (h _))
def EK (b:Book) (w:Table):Table:=b.map (leastOf w)
theorem Ub (b:Book):jc b.length (EK b) where
 len:=fun w=>ae ..
 parts:=fun w i z e=>by
  unfold EK at e
  rw[get_map] at e
  cases k:b[i]? with
  | none=>rw[k] at e;cases e
  | some x=>rw[k] at e;exact Fs w x z e
 Wl:=fun p w v h i=>by
  unfold EK
  rw[get_map,get_map]
  cases b[i]? with
  | none=>rfl
  | some x=>exact OI h x
 mono:=fun w v h i=>by
  unfold EK
  rw[get_map,get_map]
  cases b[i]? with
  | none=>exact kL _
  | some x=>exact Qt h x
theorem Fn (b:Book):∀ k w,leasts b k w=iter (EK b) k w
 | 0,_=>rfl
 | k+1,w=>Fn b k (EK b w)
theorem pJ {α:Type} (l:List α) (i:Nat):get (l.map fun _=>none) i=none:=by
 rw[get_map]
 cases l[i]?<;>rfl
theorem yT (b:Book):b.map (leastOf (leastTable b))=leastTable b:=by
 have:=(Ub b).fixed (w0:=b.map fun _=>none) (pJ b) (ae ..) (k:=b.length+1) (by omega)
 unfold leastTable
 rw[Fn]
 exact this
theorem HL {b:Book}{p:Nat}{w v:Table} (h:∀ i,cut p (get w i)=cut p (get v i)) (s t:Nat):cut p (pair b w s t)=cut p (pair b v s t):=h _
theorem Mv {b:Book}{w v:Table} (h:∀ i,ge (get w i) (get v i)) (s t:Nat):ge (pair b w s t) (pair b v s t):=h _
theorem QE {p:Nat}{tab:Table}{x y:Best} (h:cut p x=cut p y) (fs:List Field) (k:Nat):cut (p+1) (recordOf (fieldsWith tab fs k x))=cut (p+1) (recordOf (fieldsWith tab fs k y)):=
 Cv (Two.map _ _ fs fun f _=>⟨rfl,by
  show RJ p (if f.name=k then some x else if f.opt then none else some (get tab f.of_)) (if f.name=k then some y else if f.opt then none else some (get tab f.of_))
  split
  ·exact h
  ·split
   ·trivial
   ·exact rfl⟩)
theorem SG {tab:Table}{x y:Best} (h:ge x y) (fs:List Field) (k:Nat):ge (recordOf (fieldsWith tab fs k x)) (recordOf (fieldsWith tab fs k y)):=
 Fe (Two.map _ _ fs fun f _=>by
  show RI (if f.name=k then some x else if f.opt then none else some (get tab f.of_)) (if f.name=k then some y else if f.opt then none else some (get tab f.of_))
  split
  ·exact h
  ·split
   ·trivial
   ·exact kL _)
theorem Two.same {α:Type}{R:α→α→Prop} (h:∀ x,R x x):∀ l:List α,Two R l l
 | []=>.nil
 | x::l=>.cons (h x) (Two.same h l)
theorem QI {b:Book}{tab:Table}{p:Nat}{w v:Table} (h:∀ i,cut p (get w i)=cut p (get v i)) (x y:Form):cut (p+1) (differ b tab w x y)=cut (p+1) (differ b tab v x y):=by
 unfold differ
 split
 ·rfl
 ·rfl
 ·rename_i o lo hi o2 lo2 hi2
  refine sv _ (Two.append (Two.same (R:=fun x y=>cut (p+1) x=cut (p+1) y) (fun _=>rfl) _) ?_)
  split
  ·exact Two.map _ _ _ fun i _=>Iq (Two.map _ _ _ fun j _=>by
    show cut p (if j=i then pair b w o o2 else get tab o)=cut p (if j=i then pair b v o o2 else get tab o)
    split
    ·exact HL h _ _
    ·rfl)
  ·exact .nil
 ·rename_i fs fs2
  refine sv _ (Two.append (Two.same (R:=fun x y=>cut (p+1) x=cut (p+1) y) (fun _=>rfl) _) (Two.map _ _ fs fun x _=>?_))
  split
  ·rfl
  ·exact QE (HL h _ _) _ _
 ·rename_i fs fs2
  refine sv _ (Two.map _ _ fs fun x _=>?_)
  split
  ·rfl
  ·exact Dn (HL h _ _)
 ·rfl
theorem SH {b:Book}{tab:Table}{w v:Table} (h:∀ i,ge (get w i) (get v i)) (x y:Form):ge (differ b tab w x y) (differ b tab v x y):=by
 unfold differ
 split
 ·exact kL _
 ·exact kL _
 ·rename_i o lo hi o2 lo2 hi2
  refine C7 (Two.append (Two.same (fun _=>kL _) _) ?_)
  split
  ·exact Two.map _ _ _ fun i _=>Lf (Two.map _ _ _ fun j _=>by
    show ge (if j=i then pair b w o o2 else get tab o) (if j=i then pair b v o o2 else get tab o)
    split
    ·exact Mv h _ _
    ·exact kL _)
  ·exact .nil
 ·rename_i fs fs2
  refine C7 (Two.append (Two.same (fun _=>kL _) _) (Two.map _ _ fs fun x _=>?_))
  split
  ·exact kL _
  ·exact SG (Mv h _ _) _ _
 ·rename_i fs fs2
  refine C7 (Two.map _ _ fs fun x _=>?_)
  split
  ·exact kL _
  ·exact Fv (Mv h _ _)
 ·exact kL _
theorem IQ {c:Prop} [Decidable c] {x y:Best} (hx:Fit x) (hy:Fit y):Fit (if c then x else y):=by
 split
 ·exact hx
 ·exact hy
theorem IT (b:Book) (tab w:Table) (x y:Form):Fit (differ b tab w x y):=by
 unfold differ
 split
 ·exact IQ (GQ _) (IQ (GQ _) vA)
 ·rename_i m m2
  refine IQ ?_ vA
  intro z e
  rw[dQ] at e
  by_cases k:m2+2≤PARTS
  ·rw[bO k] at e
   obtain rfl:=aa e
   exact⟨by show 1≤m2+2;omega,k⟩
  ·rw[cD k] at e
   cases e
 ·refine zh fun x hx=>?_
  rcases az.mp hx with hx | hx
  ·rcases aC.mp hx with rfl | hx
   ·exact IQ (wR _) vA
   ·rcases aC.mp hx with rfl | hx
    ·exact IQ (wR _) vA
    ·cases hx
  ·split at hx
   ·obtain⟨i,_,rfl⟩:=ay.mp hx
    exact wR _
   ·cases hx
 ·refine zh fun x hx=>?_
  rcases az.mp hx with hx | hx
  ·split at hx
   ·rcases aC.mp hx with rfl | hx
    ·exact r9 _
    ·cases hx
   ·cases hx
  ·obtain⟨i,_,rfl⟩:=ay.mp hx
   split
   ·exact r9 _
   ·exact r9 _
 ·refine zh fun x hx=>?_
  obtain⟨i,_,rfl⟩:=ay.mp hx
  split
  ·exact wU _ _
  ·exact wU _ _
 ·exact Fs _ _
def gn (b:Book) (tab w:Table):Table:=(bS (b.length * b.length)).map fun k=>differ b tab w (form b (k / b.length)) (form b (k % b.length))
theorem M5 (b:Book) (tab:Table):jc (b.length * b.length) (gn b tab) where
 len:=fun w=>by unfold gn;rw[ae,bJ]
 parts:=fun w i z e=>by
  unfold gn at e
  rw[get_map] at e
  cases k:(bS (b.length * b.length))[i]? with
  | none=>rw[k] at e;cases e
  | some x=>rw[k] at e;exact IT b tab w _ _ z e
 Wl:=fun p w v h i=>by
  unfold gn
  rw[get_map,get_map]
  cases (bS (b.length * b.length))[i]? with
  | none=>rfl
  | some x=>exact QI h _ _
 mono:=fun w v h i=>by
  unfold gn
  rw[get_map,get_map]
  cases (bS (b.length * b.length))[i]? with
  | none=>exact kL _
  | some x=>exact SH h _ _
theorem IY (b:Book) (tab:Table):∀ f w,(gn b tab (differs b tab f w)=differs b tab f w)∨differs b tab f w=iter (gn b tab) f w
 | 0,w=>.inr rfl
 | f+1,w=>by
   have e:differs b tab (f+1) w=if gn b tab w == w then w else differs b tab f (gn b tab w):=rfl
   rw[e]
   by_cases k:(gn b tab w == w)=true
   ·rw[if_pos k]
    exact .inl (eq_of_beq k)
   ·rw[if_neg k]
    exact IY b tab f _
theorem rh (b:Book):gn b (leastTable b) (differTable b)=differTable b:=by
 unfold differTable
 rcases IY b (leastTable b) (b.length * b.length+2) ((bS (b.length * b.length)).map fun _=>none) with h | h
 ·exact h
 ·rw[h]
  exact(M5 b _).fixed (pJ _) (by rw[ae,bJ]) (by omega)
theorem BJ (b:Book) {k:Nat} (h:b.length * b.length≤k):iter (gn b (leastTable b)) k ((bS (b.length * b.length)).map fun _=>none)=differTable b:=
 (M5 b _).done (pJ _) (by rw[ae,bJ]) (rh b) h
end KpFix
namespace KpRead
open Kp190
theorem vt {α β:Type} (s:β→α→Option β):∀ l:List α,l.foldl (fun a x=>a.bind fun y=>s y x) none=none
 | []=>rfl
 | _::l=>vt s l
theorem EV {α β:Type} (p:β→Nat) (N:Nat) (s s':β→α→Option β):∀ (l:List α),(∀ x∈l,∀ y z,1≤p y→s y x=some z→p y≤p z∧(p z≤N→s' y x=some z))→
 ∀ a z,1≤p a→l.foldl (fun a x=>a.bind fun y=>s y x) (some a)=some z→p a≤p z∧(p z≤N→l.foldl (fun a x=>a.bind fun y=>s' y x) (some a)=some z)
 | [],_,a,z,_,e=>by
   obtain rfl:=aa e
   exact⟨aB _,fun _=>rfl⟩
 | x::l,h,a,z,ha,e=>by
   rw[bu] at e
   cases k:s a x with
   | none=>
     have:((some a).bind fun y=>s y x)=none:=k
     rw[this,vt] at e
     cases e
   | some c=>
     have k1:((some a).bind fun y=>s y x)=some c:=k
     rw[k1] at e
     obtain⟨h1,h2⟩:=h x (aI ..) a c ha k
     obtain⟨h3,h4⟩:=EV p N s s' l (fun u hu=>h u (aG _ hu)) c z (by omega) e
     refine⟨by omega,fun hz=>?_⟩
     rw[bu]
     have k2:((some a).bind fun y=>s' y x)=some c:=h2 (by omega)
     rw[k2]
     exact h4 hz
def sL (b:Book) (f o:Nat) (y:Nat×Row) (_:Nat):Option (Nat×Row):=(reads b f o y.2).map fun u=>(y.1+u.1,u.2)
def sR (b:Book) (f k:Nat) (y:Nat×Nat×Row) (x:Field):Option (Nat×Nat×Row):=match y.2.2 with
 | n::z=>if n=x.name∧y.2.1 < k then (reads b f x.of_ z).map fun w=>(y.1+w.1,y.2.1+1,w.2) else if x.opt then some y else none
 | []=>if x.opt then some y else none
theorem wF {b:Book}{f t o lo hi:Nat} (h:form b t=.list o lo hi) (n:Nat) (q:Row):reads b (f+1) t (2::n::q)=if lo≤n∧n≤hi then (bS n).foldl (fun a x=>a.bind fun y=>sL b f o y x) (some (1,q)) else none:=by
 unfold reads
 rw[h]
 rfl
theorem rY {b:Book}{f t:Nat}{fs:List Field} (h:form b t=.record fs) (k:Nat) (q:Row):reads b (f+1) t (3::k::q)=(fs.foldl (fun a x=>a.bind fun y=>sR b f k y x) (some (1,0,q))).bind fun y=>if y.2.1=k then some (y.1,y.2.2) else none:=by
 unfold reads
 rw[h]
 rfl
theorem rZ {b:Book}{f t:Nat}{fs:List Field} (h:form b t=.choice fs) (n:Nat) (q:Row):reads b (f+1) t (4::n::q)=match fs.find? fun x=>x.name == n with
 | some x=>(reads b f x.of_ q).map fun w=>(w.1+1,w.2)
 | none=>none:=by
 conv=>lhs;unfold reads
 rw[h]
 rfl
theorem map_some {α β:Type}{o:Option α}{g:α→β}{z:β} (h:o.map g=some z):∃ x,o=some x∧g x=z:=by
 cases o with
 | none=>cases h
 | some x=>exact⟨x,rfl,aa h⟩
theorem HA (b:Book):∀ f t r n q,reads b f t r=some (n,q)→1≤n∧∀ g,n≤g→reads b g t r=some (n,q):=by
 intro f
 induction f with
 | zero=>intro t r n q h;cases h
 | succ f ih=>
   intro t r n q h
   cases e:form b t with
   | num lo hi=>
     have h0:=h
     unfold reads at h
     rw[e] at h
     simp only at h
     have h1:n=1:=by
      split at h
      ·split at h
       ·exact(aV (aa h)).1.symm
       ·cases h
      ·cases h
     refine⟨by omega,fun g hg=>?_⟩
     obtain⟨g,rfl⟩:∃ g',g=g'+1:=⟨g - 1,by omega⟩
     unfold reads
     rw[e]
     exact h
   | text most=>
     unfold reads at h
     rw[e] at h
     simp only at h
     have h1:1≤n:=by
      split at h
      ·split at h
       ·have:=(aV (aa h)).1
        omega
       ·cases h
      ·cases h
     refine⟨by omega,fun g hg=>?_⟩
     obtain⟨g,rfl⟩:∃ g',g=g'+1:=⟨g - 1,by omega⟩
     unfold reads
     rw[e]
     exact h
   | list o lo hi=>
     have sh:∃ m z,r=2::m::z:=by
      unfold reads at h
      rw[e] at h
      simp only at h
      split at h
      ·exact⟨_,_,rfl⟩
      ·cases h
     obtain⟨m,z,rfl⟩:=sh
     rw[wF e] at h
     by_cases c:lo≤m∧m≤hi
     ·rw[if_pos c] at h
      have key:∀ g,n≤g+1→1≤n∧(n≤g+1→(bS m).foldl (fun a x=>a.bind fun y=>sL b g o y x) (some (1,z))=some (n,q)):=by
       intro g hg
       refine EV (fun y:Nat×Row=>y.1) (g+1) (sL b f o) (sL b g o) (bS m) (fun x _ y w hy hw=>?_) (1,z) (n,q) (aB _) h
       obtain⟨u,hu,rfl⟩:=map_some hw
       obtain⟨h1,h2⟩:=ih o y.2 u.1 u.2 hu
       refine⟨by show y.1≤y.1+u.1;omega,fun hz=>?_⟩
       have hz:y.1+u.1≤g+1:=hz
       unfold sL
       rw[h2 g (by omega)]
       rfl
      refine⟨(key n (by omega)).1,fun g hg=>?_⟩
      have:=(key n (by omega)).1
      obtain⟨g,rfl⟩:∃ g',g=g'+1:=⟨g - 1,by omega⟩
      rw[wF e,if_pos c]
      exact(key g hg).2 hg
     ·rw[if_neg c] at h
      cases h
   | record fs=>
     have sh:∃ m z,r=3::m::z:=by
      unfold reads at h
      rw[e] at h
      simp only at h
      split at h
      ·exact⟨_,_,rfl⟩
      ·cases h
     obtain⟨m,z,rfl⟩:=sh
     rw[rY e] at h
     cases k:fs.foldl (fun a x=>a.bind fun y=>sR b f m y x) (some (1,0,z)) with
     | none=>rw[k] at h;cases h
     | some y=>
       rw[k] at h
       have hh:(if y.2.1=m then some (y.1,y.2.2) else none)=some (n,q):=h
       by_cases c:y.2.1=m
       ·rw[if_pos c] at hh
        obtain⟨e1,e2⟩:=aV (aa hh)
        subst e1
        subst e2
        have key:∀ g,1≤y.1∧(y.1≤g+1→fs.foldl (fun a x=>a.bind fun y=>sR b g m y x) (some (1,0,z))=some y):=by
         intro g
         refine EV (fun y:Nat×Nat×Row=>y.1) (g+1) (sR b f m) (sR b g m) fs (fun x _ y w hy hw=>?_) (1,0,z) y (aB _) k
         unfold sR at hw ⊢
         split at hw
         ·rename_i n' z' hyz
          split at hw
          ·rename_i c1
           obtain⟨u,hu,rfl⟩:=map_some hw
           obtain⟨h1,h2⟩:=ih x.of_ z' u.1 u.2 hu
           refine⟨by show y.1≤y.1+u.1;omega,fun hz=>?_⟩
           have hz:y.1+u.1≤g+1:=hz
           rw[if_pos c1,h2 g (by omega)]
           rfl
          ·rename_i c1
           rw[if_neg c1]
           split at hw
           ·rename_i c2
            obtain rfl:=aa hw
            exact⟨aB _,fun _=>by rw[if_pos c2]⟩
           ·cases hw
         ·rename_i hyz
          split at hw
          ·rename_i c2
           obtain rfl:=aa hw
           exact⟨aB _,fun _=>by rw[if_pos c2]⟩
          ·cases hw
        refine⟨(key 0).1,fun g hg=>?_⟩
        have:=(key 0).1
        obtain⟨g,rfl⟩:∃ g',g=g'+1:=⟨g - 1,by omega⟩
        rw[rY e,(key g).2 hg]
        show(if y.2.1=m then some (y.1,y.2.2) else none)=_
        rw[if_pos c]
       ·rw[if_neg c] at hh
        cases hh
   | choice fs=>
     have sh:∃ m z,r=4::m::z:=by
      unfold reads at h
      rw[e] at h
      simp only at h
      split at h
      ·exact⟨_,_,rfl⟩
      ·cases h
     obtain⟨m,z,rfl⟩:=sh
     rw[rZ e] at h
     cases k:fs.find? (fun x=>x.name == m) with
     | none=>rw[k] at h;cases h
     | some x=>
       rw[k] at h
       obtain⟨u,hu,hz⟩:=map_some h
       obtain⟨h1,h2⟩:=ih x.of_ z u.1 u.2 hu
       obtain⟨e1,e2⟩:=aV hz
       subst e1
       subst e2
       refine⟨by omega,fun g hg=>?_⟩
       obtain⟨g,rfl⟩:∃ g',g=g'+1:=⟨g - 1,by omega⟩
       rw[rZ e,k]
       show(reads b g x.of_ z).map _=_
       rw[h2 g (by omega)]
       rfl
theorem Uk (b:Book) (t:Nat) (r:Row):isOf b t r=true↔∃ f n,reads b f t r=some (n,[])∧n≤PARTS:=by
 constructor
 ·intro h
  unfold isOf at h
  split at h
  ·rename_i n e
   exact⟨_,n,e,of_decide_eq_true h⟩
  ·cases h
 ·intro ⟨f,n,h,hn⟩
  obtain⟨_,h2⟩:=HA b f t r n [] h
  unfold isOf
  rw[h2 (PARTS+1) (by omega)]
  exact decide_eq_true hn
end KpRead
namespace KpTop
open Kp190 (Call Field)
def tri:List Int→List (Int×Int×Int)
 | x::y::z::r=>(x,y,z)::tri r
 | _=>[]
def duo:List Int→List (Int×Int)
 | x::y::r=>(x,y)::duo r
 | _=>[]
def fieldOf (f:Int×Int×Int):Field:=⟨f.1.toNat,f.2.1 == 1,f.2.2.toNat⟩
def altOf (f:Int×Int):Field:=⟨f.1.toNat,false,f.2.toNat⟩
theorem RE:∀ (f:Nat) (l:List Int),l.length≤f→l.length % 3=0→(cZ 3 f l).map Kp190Neutral.field=(tri l).map fieldOf∧(∀ c,c∈cZ 3 f l↔∃ q∈tri l,c=[q.1,q.2.1,q.2.2])
 | 0,l,h,_=>by
   have:l=[]:=oV.mp (by omega)
   subst this
   exact⟨rfl,fun c=>by simp[cZ,tri]⟩
 | f+1,[],_,_=>⟨rfl,fun c=>by simp[cZ,tri]⟩
 | f+1,[_],_,h=>absurd h (by simp)
 | f+1,[_,_],_,h=>absurd h (by simp)
 | f+1,x::y::z::r,h,h3=>by
   have h:r.length+3≤f+1:=h
   have h3:(r.length+3) % 3=0:=h3
   obtain⟨e1,e2⟩:=RE f r (by omega) (by omega)
   have e:cZ 3 (f+1) (x::y::z::r)=[x,y,z]::cZ 3 f r:=rfl
   rw[e]
   refine⟨by rw[aU,e1];rfl,fun c=>?_⟩
   rw[aC,e2]
   show _↔∃ q∈(x,y,z)::tri r,_
   constructor
   ·rintro(rfl | ⟨q,hq,rfl⟩)
    ·exact⟨(x,y,z),aI ..,rfl⟩
    ·exact⟨q,aG _ hq,rfl⟩
   ·rintro⟨q,hq,rfl⟩
    rcases aC.mp hq with rfl | hq
    ·exact .inl rfl
    ·exact .inr ⟨q,hq,rfl⟩
theorem RF:∀ (f:Nat) (l:List Int),l.length≤f→l.length % 2=0→(cZ 2 f l).map Kp190Neutral.alt=(duo l).map altOf
 | 0,l,h,_=>by
   have:l=[]:=oV.mp (by omega)
   subst this
   rfl
 | f+1,[],_,_=>rfl
 | f+1,[_],_,h=>absurd h (by simp)
 | f+1,x::y::r,h,h3=>by
   have h:r.length+2≤f+1:=h
   have h3:(r.length+2) % 2=0:=h3
   have e1:=RF f r (by omega) (by omega)
   have e:cZ 2 (f+1) (x::y::r)=[x,y]::cZ 2 f r:=rfl
   rw[e,aU,e1]
   rfl
theorem QX {l:List Int}{q:Int×Int×Int}:∀ {l:List Int},q∈tri l→q.1∈l∧q.2.1∈l∧q.2.2∈l
 | [],h=>by cases h
 | [_],h=>by cases h
 | [_,_],h=>by cases h
 | x::y::z::r,h=>by
   rcases aC.mp (show q∈(x,y,z)::tri r from h) with rfl | h
   ·simp
   ·obtain⟨h1,h2,h3⟩:=QX (l:=l) h
    simp[h1,h2,h3]
theorem Rv {q:Int×Int}:∀ {l:List Int},q∈duo l→q.1∈l∧q.2∈l
 | [],h=>by cases h
 | [_],h=>by cases h
 | x::y::r,h=>by
   rcases aC.mp (show q∈(x,y)::duo r from h) with rfl | h
   ·simp
   ·obtain⟨h1,h2⟩:=Rv h
    simp[h1,h2]
inductive One:List Int→Call→List Int→Prop
 | begin_ {t}:One (0::t) .begin_ t
 | num {a b:Int}{t}:0≤a→0≤b→One (1::a::b::t) (.num a.toNat b.toNat) t
 | text {m:Int}{t}:0≤m→One (2::m::t) (.text m.toNat) t
 | list {o a b:Int}{t}:0≤o→0≤a→0≤b→One (3::o::a::b::t) (.list o.toNat a.toNat b.toNat) t
 | record {r t:List Int}:r.length % 3=0→(∀ x∈r,0≤x)→(∀ q∈tri r,q.2.1=0∨q.2.1=1)→One (4::(r.length:Int)::(r++t)) (.record ((tri r).map fieldOf)) t
 | choice {r t:List Int}:r.length % 2=0→(∀ x∈r,0≤x)→One (5::(r.length:Int)::(r++t)) (.choice ((duo r).map altOf)) t
 | is_ {s:Int}{r t:List Int}:0≤s→r.length≤1000→(∀ x∈r,0≤x∧x≤4294967295)→One (6::s::(r.length:Int)::(r++t)) (.is_ s.toNat (r.map Int.toNat)) t
 | some_ {s:Int}{t}:0≤s→One (7::s::t) (.some_ s.toNat) t
 | within {s u:Int}{t}:0≤s→0≤u→One (8::s::u::t) (.within s.toNat u.toNat) t
inductive Chain:List Int→List Call→Prop
 | nil:Chain [] []
 | cons {l t:List Int}{c:Call}{cs:List Call}:One l c t→Chain t cs→Chain l (c::cs)
def flat:vY→List Call→List Int
 | _,[]=>[]
 | s,c::cs=>let y:=cA s c
   ((y.2.nums.length+1:Nat):Int)::y.2.num::(bT y.2.nums++flat y.1 cs)
theorem dW {z:Int}{b:Nat} (h:bY z b=true):0≤z∧z < 2 ^ b:=by
 unfold bY at h
 rw[a5,decide_eq_true_eq,decide_eq_true_eq] at h
 exact h
theorem Xm {l x s:List Int} (h:PyFlat.row l=some (x,s)):l=(x.length:Int)::(x++s):=by
 cases l with
 | nil=>cases h
 | cons n r=>
   have h:(if 0≤n∧n.toNat≤r.length then some (r.take n.toNat,r.drop n.toNat) else none)=some (x,s):=h
   by_cases k:0≤n∧n.toNat≤r.length
   ·rw[if_pos k] at h
    obtain⟨e1,e2⟩:=aV (aa h)
    subst e1
    subst e2
    rw[qL,rA]
    congr 1
    omega
   ·rw[if_neg k] at h
    cases h
theorem Hx {l:List Int}{xs:List (List Int)}{s:List Int} (h:gG 1 l=some (xs,s)):∃ x,xs=[x]∧l=(x.length:Int)::(x++s):=by
 unfold gG at h
 cases k:PyFlat.row l with
 | none=>rw[k] at h;cases h
 | some y=>
   obtain⟨x,s'⟩:=y
   rw[k] at h
   have h:some ([x],s')=some (xs,s):=h
   obtain⟨e1,e2⟩:=aV (aa h)
   subst e1
   subst e2
   exact⟨x,rfl,Xm k⟩
def YI (c:List (List Int)) (x:Call):Prop:=Kp190Neutral.callOf (d4 c)=some x
theorem VC {c:List (List Int)}{x:Call} (h:YI c x) (s:vY):Aw s (d4 c)=((cA s x).1,(cA s x).2.num::bT (cA s x).2.nums):=by
 unfold Aw
 rw[show Kp190Neutral.callOf (d4 c)=some x from h]
theorem XB {l:List Int}{c:List (List Int)}{t:List Int} (h:PyFlat.call bE l=some (c,t)) (ha:Kp190Neutral.asked1 (d4 c)=true):∃ x,One l x t∧YI c x:=by
 cases l with
 | nil=>cases h
 | cons p r=>
   unfold PyFlat.call at h
   have aak:∀ n,¬ r.length < n→gG 0 (r.drop n)=some ([],r.drop n):=fun n _=>rfl
   by_cases p0:p=0
   ·subst p0
    have h:some ([[0]],r)=some (c,t):=by simpa [bE,gG] using h
    obtain⟨e1,e2⟩:=aV (aa h)
    subst e1 e2
    exact⟨_,.begin_,rfl⟩
   by_cases p1:p=1
   ·subst p1
    match r,h with
    | [],h=>simp[bE] at h
    | [_],h=>simp[bE] at h
    | a::b::r,h=>
      have h:some ([[1,a,b]],r)=some (c,t):=by simpa [bE,gG] using h
      obtain⟨e1,e2⟩:=aV (aa h)
      subst e1 e2
      have ha:(bY a 32 && bY b 32)=true:=ha
      rw[a5] at ha
      exact⟨_,.num (dW ha.1).1 (dW ha.2).1,rfl⟩
   by_cases p2:p=2
   ·subst p2
    match r,h with
    | [],h=>simp[bE] at h
    | a::r,h=>
      have h:some ([[2,a]],r)=some (c,t):=by simpa [bE,gG] using h
      obtain⟨e1,e2⟩:=aV (aa h)
      subst e1 e2
      exact⟨_,.text (dW ha).1,rfl⟩
   by_cases p3:p=3
   ·subst p3
    match r,h with
    | [],h=>simp[bE] at h
    | [_],h=>simp[bE] at h
    | [_,_],h=>simp[bE] at h
    | o::a::b::r,h=>
      have h:some ([[3,o,a,b]],r)=some (c,t):=by simpa [bE,gG] using h
      obtain⟨e1,e2⟩:=aV (aa h)
      subst e1 e2
      have ha:(bY o 32 && (bY a 32 && bY b 32))=true:=ha
      rw[a5,a5] at ha
      exact⟨_,.list (dW ha.1).1 (dW ha.2.1).1 (dW ha.2.2).1,rfl⟩
   by_cases p4:p=4
   ·subst p4
    cases k:gG 1 r with
    | none=>simp[bE,k] at h
    | some y=>
      obtain⟨xs,s⟩:=y
      obtain⟨x,rfl,e⟩:=Hx k
      have h:some ([[4],x],s)=some (c,t):=by simpa [bE,k] using h
      obtain⟨e1,e2⟩:=aV (aa h)
      subst e1 e2
      have ha:(decide (x.length % 3=0) && ((x.all fun z=>bY z 32) && (lx 3 x).all fun l=>bY (l.getD 1 0) 1))=true:=ha
      rw[a5,a5,decide_eq_true_eq,bQ,bQ] at ha
      obtain⟨h3,hn,ho⟩:=ha
      obtain⟨c1,c2⟩:=RE x.length x (aB _) h3
      rw[e]
      refine⟨.record ((tri x).map fieldOf),.record h3 (fun z hz=>(dW (hn z hz)).1) fun q hq=>?_,?_⟩
      ·have:=dW (ho [q.1,q.2.1,q.2.2] ((c2 _).mpr ⟨q,hq,rfl⟩))
       have h1:0≤q.2.1:=this.1
       have h2:q.2.1 < 2:=this.2
       omega
      ·show some (Call.record ((lx 3 x).map Kp190Neutral.field))=_
       unfold lx
       rw[c1]
   by_cases p5:p=5
   ·subst p5
    cases k:gG 1 r with
    | none=>simp[bE,k] at h
    | some y=>
      obtain⟨xs,s⟩:=y
      obtain⟨x,rfl,e⟩:=Hx k
      have h:some ([[5],x],s)=some (c,t):=by simpa [bE,k] using h
      obtain⟨e1,e2⟩:=aV (aa h)
      subst e1 e2
      have ha:(decide (x.length % 2=0) && (x.all fun z=>bY z 32))=true:=ha
      rw[a5,decide_eq_true_eq,bQ] at ha
      obtain⟨h3,hn⟩:=ha
      rw[e]
      refine⟨.choice ((duo x).map altOf),.choice h3 (fun z hz=>(dW (hn z hz)).1),?_⟩
      show some (Call.choice ((lx 2 x).map Kp190Neutral.alt))=_
      unfold lx
      rw[RF x.length x (aB _) h3]
   by_cases p6:p=6
   ·subst p6
    match r,h with
    | [],h=>simp[bE] at h
    | u::r,h=>
      cases k:gG 1 r with
      | none=>simp[bE,k] at h
      | some y=>
        obtain⟨xs,s⟩:=y
        obtain⟨x,rfl,e⟩:=Hx k
        have h:some ([[6,u],x],s)=some (c,t):=by simpa [bE,k] using h
        obtain⟨e1,e2⟩:=aV (aa h)
        subst e1 e2
        have ha:(bY u 32 && (decide (x.length≤1000) && x.all fun z=>bY z 32))=true:=ha
        rw[a5,a5,decide_eq_true_eq,bQ] at ha
        obtain⟨hu,h3,hn⟩:=ha
        rw[e]
        refine⟨.is_ u.toNat (x.map Int.toNat),.is_ (dW hu).1 h3 (fun z hz=>?_),rfl⟩
        have:=dW (hn z hz)
        omega
   by_cases p7:p=7
   ·subst p7
    match r,h with
    | [],h=>simp[bE] at h
    | a::r,h=>
      have h:some ([[7,a]],r)=some (c,t):=by simpa [bE,gG] using h
      obtain⟨e1,e2⟩:=aV (aa h)
      subst e1 e2
      exact⟨_,.some_ (dW ha).1,rfl⟩
   by_cases p8:p=8
   ·subst p8
    match r,h with
    | [],h=>simp[bE] at h
    | [_],h=>simp[bE] at h
    | a::b::r,h=>
      have h:some ([[8,a,b]],r)=some (c,t):=by simpa [bE,gG] using h
      obtain⟨e1,e2⟩:=aV (aa h)
      subst e1 e2
      have ha:(bY a 32 && bY b 32)=true:=ha
      rw[a5] at ha
      exact⟨_,.within (dW ha.1).1 (dW ha.2).1,rfl⟩
   simp[bE,p0,p1,p2,p3,p4,p5,p6,p7,p8] at h
theorem Pa:∀ (f:Nat) (l:List Int) (cs:List (List (List Int))),tL bE f l=some cs→(∀ c∈cs,Kp190Neutral.asked1 (d4 c)=true)→
 ∃ xs,Chain l xs∧xs.length=cs.length∧(∀ c ds,cs=c::ds→d4 c=[[0]]→∃ ys,xs=.begin_::ys)∧∀ s,PyFlat.told (PyFlat.played Aw s (cs.map d4))=flat s xs
 | _,[],cs,h,_=>by
   have:cs=[]:=by
    unfold tL at h
    exact(aa h).symm
   subst this
   exact⟨[],.nil,rfl,fun _ _ e _=>(by cases e),fun _=>rfl⟩
 | 0,_::_,cs,h,_=>by cases h
 | f+1,p::r,cs,h,ha=>by
   unfold tL at h
   cases k:PyFlat.call bE (p::r) with
   | none=>rw[k] at h;cases h
   | some y=>
     obtain⟨c,t⟩:=y
     rw[k] at h
     have h:(match tL bE f t with
      | none=>none
      | some cs=>some (c::cs))=some cs:=h
     cases k2:tL bE f t with
     | none=>rw[k2] at h;cases h
     | some ds=>
       rw[k2] at h
       obtain rfl:=aa h
       obtain⟨x,h1,h2⟩:=XB k (ha c (aI ..))
       obtain⟨xs,h3,h4,_,h5⟩:=Pa f t ds k2 fun d hd=>ha d (aG _ hd)
       refine⟨x::xs,.cons h1 h3,by simp[h4],fun c' ds' e e2=>?_,fun s=>?_⟩
       ·obtain⟨rfl,rfl⟩:=List.cons.inj e
        unfold YI at h2
        rw[e2] at h2
        have h2:some Call.begin_=some x:=h2
        exact⟨xs,by rw[← aa h2]⟩
       rw[aU]
       unfold PyFlat.played
       rw[VC h2 s]
       show((((cA s x).2.num::bT (cA s x).2.nums).length:Nat):Int)::(((cA s x).2.num::bT (cA s x).2.nums)++PyFlat.told _)=_
       rw[h5]
       have e:flat s (x::xs)=(((cA s x).2.nums.length+1:Nat):Int)::(cA s x).2.num::(bT (cA s x).2.nums++flat (cA s x).1 xs):=rfl
       rw[e,aM]
       have e2:(bT (cA s x).2.nums).length=(cA s x).2.nums.length:=ae ..
       rw[e2]
       rfl
theorem Pf {ns:List Int} (h:yd ns=true):∃ xs,Chain ns (.begin_::xs)∧xs.length+1≤400∧xX ns=flat none (.begin_::xs):=by
 unfold yd PyKp190.calls at h
 unfold xX PyKp190.calls
 cases k:tL bE ns.length ns with
 | none=>rw[k] at h;cases h
 | some cs=>
   rw[k] at h
   have h:(PyFlat.atMost 400 (cs.map d4) && Kp190Neutral.asked (cs.map d4))=true:=h
   unfold PyFlat.atMost Kp190Neutral.asked at h
   rw[a5,a5,a5,decide_eq_true_eq,ae,bQ] at h
   obtain⟨h1,h2,_,h3⟩:=h
   obtain⟨xs,c1,c2,c4,c3⟩:=Pa _ _ _ k fun c hc=>h3 _ (List.mem_map_of_mem hc)
   have hb:∃ ys,xs=.begin_::ys:=by
    cases cs with
    | nil=>cases h2
    | cons c ds=>
      have e:d4 c=[[0]]:=by
       have h2:Kp190Neutral.begins (d4 c::ds.map d4)=true:=h2
       unfold Kp190Neutral.begins at h2
       split at h2
       ·rename_i q
        exact(List.cons.inj q).1
       ·cases h2
      exact c4 c ds rfl e
   obtain⟨ys,rfl⟩:=hb
   exact⟨ys,c1,by rw[← aM (a:=Call.begin_),c2];exact h1,c3 none⟩
end KpTop
namespace KpFix
open Kp190
def kG (x:Best):Prop:=∀ z,x=some z→z.2.length+1≤3 * z.1
theorem kf:kG none:=fun _ e=>nomatch e
theorem EU:∀ (l:List (Row×Best)),(∀ x∈l,x.1.length≤1∧kG x.2)→∀ a,kG a→kG (l.foldl put a)
 | [],_,_,h=>h
 | (h,x)::l,hl,a,ha=>by
   refine EU l (fun y hy=>hl y (aG _ hy)) _ ?_
   obtain⟨h1,h2⟩:=hl (h,x) (aI ..)
   cases a with
   | none=>rw[va];exact kf
   | some p=>
     cases x with
     | none=>exact kf
     | some q=>
       intro z e
       have e:some (p.1+q.1,p.2++(h++q.2))=some z:=e
       obtain rfl:=aa e
       have i1:=ha p rfl
       have i2:q.2.length+1≤3 * q.1:=h2 q rfl
       have i3:h.length≤1:=h1
       show(p.2++(h++q.2)).length+1≤3 * (p.1+q.1)
       rw[au,au]
       omega
theorem KU {x:Best} (h:kG x):kG (held x):=by
 intro z e
 rw[dQ] at e
 cases x with
 | none=>cases e
 | some y=>
   by_cases k:y.1≤PARTS
   ·rw[bO k] at e
    exact h z e
   ·rw[cD k] at e
    cases e
theorem D4 {h:Row}{l:List (Row×Best)} (hh:h.length≤2) (hl:∀ x∈l,x.1.length≤1∧kG x.2):kG (comp h l):=
 KU (EU l hl _ fun z e=>by
  obtain rfl:=aa e
  show h.length+1≤3 * 1
  omega)
theorem yk {l:List Best} (h:∀ x∈l,kG x):kG (listOf l):=by
 rw[c6]
 refine D4 (aB _) fun x hx=>?_
 obtain⟨y,hy,rfl⟩:=ay.mp hx
 exact⟨aT _,h y hy⟩
theorem uq {l:List (Nat×Option Best)} (h:∀ x∈l,∀ y,x.2=some y→kG y):kG (recordOf l):=by
 rw[eX]
 refine D4 (aB _) fun x hx=>?_
 obtain⟨y,hy,e⟩:=oS.mp hx
 obtain⟨v,hv,rfl⟩:=cY.mp e
 exact⟨aB _,h y hy v hv⟩
theorem ur {n:Nat}{x:Best} (h:kG x):kG (choiceOf n x):=by
 rw[iY]
 refine D4 (by show 1≤2;omega) fun y hy=>?_
 obtain rfl:=ag.mp hy
 exact⟨aB _,h⟩
theorem we {l:List Best} (h:∀ x∈l,kG x):kG (least l):=fun z e=>h _ (pL e) z rfl
theorem zd {c:Prop} [Decidable c] {x y:Best} (hx:kG x) (hy:kG y):kG (if c then x else y):=by
 split
 ·exact hx
 ·exact hy
theorem Ca {w:Table} (h:∀ i,kG (get w i)):∀ x:Form,kG (leastOf w x)
 | .num lo _=>fun z e=>by
   obtain rfl:=aa e
   show 3≤3 * 1
   omega
 | .text _=>fun z e=>by
   obtain rfl:=aa e
   show 3≤3 * 1
   omega
 | .list o lo _=>yk fun x hx=>by rw[List.eq_of_mem_replicate hx];exact h o
 | .record fs=>uq fun x hx y e=>by
   obtain⟨f,_,rfl⟩:=ay.mp hx
   have e:(if f.opt then none else some (get w f.of_))=some y:=e
   split at e
   ·cases e
   ·obtain rfl:=aa e
    exact h _
 | .choice fs=>we fun x hx=>by
   obtain⟨f,_,rfl⟩:=ay.mp hx
   exact ur (h _)
theorem Fc (b:Book):∀ k w,(∀ i,kG (get w i))→∀ i,kG (get (leasts b k w) i)
 | 0,_,h=>h
 | k+1,w,h=>Fc b k _ fun i=>by
   rw[get_map]
   cases b[i]? with
   | none=>exact kf
   | some x=>exact Ca h x
theorem qR (b:Book) (i:Nat):kG (get (leastTable b) i):=Fc b _ _ (fun j=>by rw[pJ];exact kf) i
theorem Fd {tab:Table} (ht:∀ i,kG (get tab i)) {v:Best} (hv:kG v) (fs:List Field) (k:Nat):kG (recordOf (fieldsWith tab fs k v)):=uq fun x hx y e=>by
 obtain⟨f,_,rfl⟩:=ay.mp hx
 have e:(if f.name=k then some v else if f.opt then none else some (get tab f.of_))=some y:=e
 split at e
 ·obtain rfl:=aa e
  exact hv
 ·split at e
  ·cases e
  ·obtain rfl:=aa e
   exact ht _
theorem NN {b:Book}{tab w:Table} (ht:∀ i,kG (get tab i)) (hw:∀ i,kG (get w i)) (x y:Form):kG (differ b tab w x y):=by
 have one:∀ a c:Nat,kG (some (1,[a,c])):=fun a c z e=>by
  obtain rfl:=aa e
  show 3≤3 * 1
  omega
 have rep:∀ n o,kG (listOf (aj n (get tab o))):=fun n o=>yk fun x hx=>by rw[List.eq_of_mem_replicate hx];exact ht o
 unfold differ
 split
 ·exact zd (one _ _) (zd (one _ _) kf)
 ·rename_i m m2
  refine zd (KU fun z e=>?_) kf
  obtain rfl:=aa e
  show(1::(m2+1)::aj (m2+1) 0).length+1≤3 * (m2+2)
  rw[aM,aM,aX]
  omega
 ·refine we fun x hx=>?_
  rcases az.mp hx with hx | hx
  ·rcases aC.mp hx with rfl | hx
   ·exact zd (rep _ _) kf
   ·rcases aC.mp hx with rfl | hx
    ·exact zd (rep _ _) kf
    ·cases hx
  ·split at hx
   ·obtain⟨i,_,rfl⟩:=ay.mp hx
    refine yk fun x hx=>?_
    obtain⟨j,_,rfl⟩:=ay.mp hx
    exact zd (hw _) (ht _)
   ·cases hx
 ·refine we fun x hx=>?_
  rcases az.mp hx with hx | hx
  ·split at hx
   ·rcases aC.mp hx with rfl | hx
    ·exact uq fun x hx y e=>by
      obtain⟨f,_,rfl⟩:=ay.mp hx
      have e:(if f.opt then none else some (get tab f.of_))=some y:=e
      split at e
      ·cases e
      ·obtain rfl:=aa e
       exact ht _
    ·cases hx
   ·cases hx
  ·obtain⟨i,_,rfl⟩:=ay.mp hx
   split
   ·exact Fd ht (ht _) _ _
   ·exact Fd ht (hw _) _ _
 ·refine we fun x hx=>?_
  obtain⟨i,_,rfl⟩:=ay.mp hx
  split
  ·exact ur (ht _)
  ·exact ur (hw _)
 ·exact Ca ht _
theorem Cb (b:Book) (tab:Table) (ht:∀ i,kG (get tab i)):∀ f w,(∀ i,kG (get w i))→∀ i,kG (get (differs b tab f w) i)
 | 0,_,h=>h
 | f+1,w,h=>by
   have e:differs b tab (f+1) w=if gn b tab w == w then w else differs b tab f (gn b tab w):=rfl
   rw[e]
   split
   ·exact h
   ·refine Cb b tab ht f _ fun i=>?_
    unfold gn
    rw[get_map]
    cases (bS (b.length * b.length))[i]? with
    | none=>exact kf
    | some x=>exact NN ht h _ _
theorem uY (b:Book) (i:Nat):kG (get (differTable b) i):=Cb b _ (qR b) _ _ (fun j=>by rw[pJ];exact kf) i
theorem oe (b:Book) (i:Nat):Fit (get (leastTable b) i):=by
 rw[← yT b]
 exact fun z e=>(Ub b).parts _ i z e
theorem rg (b:Book) (i:Nat):Fit (get (differTable b) i):=by
 rw[← rh b]
 exact fun z e=>(M5 b _).parts _ i z e
theorem NT {x:Best} (h1:Fit x) (h2:kG x) {z:Nat×Row} (e:x=some z):z.2.length≤599:=by
 have a:=(h1 z e).2
 have c:=h2 z e
 have:PARTS=200:=rfl
 omega
theorem PX (s:State) (c:Call):(step s c).2.nums.length≤599:=by
 have Vd:∀ b g x,(add b g x).2.nums.length≤599:=fun b g x=>by
  unfold add
  split
  ·exact aT _
  ·split
   ·exact aT _
   ·exact aT _
 have Yu:∀ b ts a,a.nums.length≤599→(ask b ts a).2.nums.length≤599:=fun b ts a h=>by
  unfold ask
  show(if _ then say (-2) else if _ then say (-61) else a).nums.length≤599
  split
  ·exact aT _
  ·split
   ·exact aT _
   ·exact h
 cases s with
 | none=>cases c<;>exact aT _
 | some b=>
   cases c with
   | begin_=>exact aT _
   | num lo hi=>exact Vd _ _ _
   | text m=>exact Vd _ _ _
   | list o lo hi=>exact Vd _ _ _
   | record fs=>exact Vd _ _ _
   | choice fs=>exact Vd _ _ _
   | is_ t r=>exact Yu _ _ _ (aT _)
   | some_ t=>
     refine Yu _ _ _ ?_
     cases e:get (leastTable b) t with
     | none=>exact aT _
     | some z=>exact NT (oe b t) (qR b t) e
   | within x y=>
     refine Yu _ _ _ ?_
     cases e:get (differTable b) (x * b.length+y) with
     | none=>exact aT _
     | some z=>exact NT (rg b _) (uY b _) e
end KpFix
namespace Ways
open Kp190 (Form Field)
abbrev a3:=Int×Int
structure Way where
 own:Nat
 head:List Nat
 steps:List (List Nat×a3)
def i9 (n:Nat):a3:=(n,-1)
def yP (v:Nat):Way:=⟨1,[0,v],[]⟩
def lF (n:Nat):Way:=⟨1+n,[1,n]++aj n 0,[]⟩
def eD (ws:List a3):Way:=⟨1,[2,ws.length],ws.map fun w=>([],w)⟩
def kg (ns:List (Nat×a3)):Way:=⟨1,[3,ns.length],ns.map fun x=>([x.1],x.2)⟩
def iw (n:Nat) (w:a3):Way:=⟨1,[4,n],[([],w)]⟩
def rb (fs:List Field):List Field:=fs.filter fun f=>!f.opt
def jF:Form→List Way
 | .num lo _=>[yP lo]
 | .text _=>[lF 0]
 | .list o lo _=>[eD (aj lo (i9 o))]
 | .record fs=>[kg ((rb fs).map fun f=>(f.name,i9 f.of_))]
 | .choice fs=>fs.map fun f=>iw f.name (i9 f.of_)
def outside (lo hi lo2 hi2:Nat):Option Nat:=if lo < lo2∨hi2 < lo then some lo else if hi2 < hi then some (hi2+1) else none
def l8 (o lo hi o2:Nat):List Way:=if hi < max 1 lo then [] else
 [eD ([((o:Int),(o2:Int))]++aj (max 1 lo - 1) (i9 o)),eD (aj (max 1 lo - 1) (i9 o)++[((o:Int),(o2:Int))])]
def sZ (fs fs2:List Field):Bool:=(rb fs2).any fun y=>!((rb fs).map fun x=>x.name).contains y.name
def oz (fs:List Field) (n:Nat) (w:a3):Way:=kg (fs.filterMap fun f=>if f.name=n then some (n,w) else if f.opt then none else some (f.name,i9 f.of_))
def taken (fs2:List Field) (n:Nat):Int:=match fs2.find? fun y=>y.name == n with
 | some y=>y.of_
 | none=>-1
def mX:Form→Form→List Way
 | .num lo hi,.num lo2 hi2=>match outside lo hi lo2 hi2 with
   | some v=>[yP v]
   | none=>[]
 | .text m,.text m2=>match outside 0 m 0 m2 with
   | some n=>[lF n]
   | none=>[]
 | .list o lo hi,.list o2 lo2 hi2=>l8 o lo hi o2++(match outside lo hi lo2 hi2 with
   | some n=>[eD (aj n (i9 o))]
   | none=>[])
 | .record fs,.record fs2=>if sZ fs fs2 then jF (.record fs) else fs.map fun f=>oz fs f.name ((f.of_:Int),taken fs2 f.name)
 | .choice fs,.choice fs2=>fs.map fun f=>iw f.name ((f.of_:Int),taken fs2 f.name)
 | x,_=>jF x
def eB (b:ax) (w:a3):List Way:=if w.2=-1 then jF (qP b w.1.toNat) else mX (qP b w.1.toNat) (qP b w.2.toNat)
end Ways
namespace Ways
open Kp190 KpFix
def raw (K:a3→Best) (w:Way):Best:=(w.steps.map fun s=>(s.1,K s.2)).foldl put (some (w.own,w.head))
def val (K:a3→Best) (w:Way):Best:=held (raw K w)
def best (K:a3→Best) (ws:List Way):Best:=least (ws.map (val K))
theorem B9 {α β γ:Type}{R:β→γ→Prop}{f:α→β}{g:α→γ}:∀ {l:List α},(∀ x∈l,R (f x) (g x))→Two R (l.map f) (l.map g)
 | [],_=>.nil
 | x::l,h=>.cons (h x (aI ..)) (B9 fun y hy=>h y (aG _ hy))
theorem QW {p:Nat}{K K':a3→Best}{w:Way} (ho:1≤w.own) (h:∀ s∈w.steps,cut p (K s.2)=cut p (K' s.2)):cut (p+1) (val K w)=cut (p+1) (val K' w):=by
 unfold val raw
 rw[dQ,dQ,Dk,Dk (p+1)]
 congr 1
 have t:Two (Vj p) (w.steps.map fun s=>(s.1,K s.2)) (w.steps.map fun s=>(s.1,K' s.2)):=B9 fun s hs=>⟨rfl,h s hs⟩
 exact U1 (Nat.add_le_add_left ho p) (IM p t w.own w.head)
theorem DZ {K:a3→Best}{w:Way}{z:Nat×Row} (e:val K w=some z):w.own≤z.1∧z.1≤PARTS:=by
 unfold val at e
 rw[dQ] at e
 cases r:raw K w with
 | none=>rw[r] at e;cases e
 | some y=>
   rw[r] at e
   by_cases h:y.1≤PARTS
   ·rw[bO h] at e
    obtain rfl:=aa e
    exact⟨tf _ _ _ _ r,h⟩
   ·rw[cD h] at e
    cases e
theorem Jb {K:a3→Best}{ws:List Way}{z:Nat×Row} (e:best K ws=some z):∃ w∈ws,val K w=some z:=by
 obtain⟨w,hw,e⟩:=ay.mp (pL e)
 exact⟨w,hw,e⟩
structure Sys (D:a3→Prop) (W:a3→List Way):Prop where
 own:∀ w,D w→∀ y∈W w,1≤y.own
 sub:∀ w,D w→∀ y∈W w,∀ s∈y.steps,D s.2
theorem Sys.unique {D:a3→Prop}{W:a3→List Way} (S:Sys D W) {K K':a3→Best} (hK:∀ w,D w→K w=best K (W w)) (hK':∀ w,D w→K' w=best K' (W w)):∀ w,D w→K w=K' w:=by
 have zero:∀ (K:a3→Best),(∀ w,D w→K w=best K (W w))→∀ w,D w→cut 0 (K w)=none:=fun K hK w hw=>by
  cases e:K w with
  | none=>rfl
  | some z=>
    rw[hK w hw] at e
    obtain⟨y,hy,e⟩:=Jb e
    have:=DZ e
    have:=S.own w hw y hy
    exact cD (by omega)
 have key:∀ p w,D w→cut p (K w)=cut p (K' w):=by
  intro p
  induction p with
  | zero=>intro w hw;rw[zero K hK w hw,zero K' hK' w hw]
  | succ p ih=>
    intro w hw
    rw[hK w hw,hK' w hw]
    exact sv (p+1) (B9 fun y hy=>QW (S.own w hw y hy) fun s hs=>ih s.2 (S.sub w hw y hy s hs))
 exact fun w hw=>U3 fun p=>key p w hw
end Ways
namespace Ways
open Kp190 KpFix
theorem eZ (x y:Nat) (a b:Row):earlier (x::a) (y::b)=if x < y then true else if y < x then false else earlier a b:=rfl
theorem yU:∀ a:Row,earlier a a=false
 | []=>rfl
 | x::a=>by rw[eZ,if_neg (by omega),if_neg (by omega),yU a]
theorem pX:∀ {a b:Row},earlier a b=true→earlier b a=false
 | [],[],h=>by cases h
 | [],y::b,_=>rfl
 | x::a,[],h=>by cases h
 | x::a,y::b,h=>by
   rw[eZ] at h ⊢
   by_cases h1:x < y
   ·rw[if_neg (by omega),if_pos h1]
   ·rw[if_neg h1] at h
    by_cases h2:y < x
    ·rw[if_pos h2] at h;cases h
    ·rw[if_neg h2] at h
     rw[if_neg h2,if_neg h1]
     exact pX h
theorem AH:∀ {a b:Row},earlier a b=false→earlier b a=false→a=b
 | [],[],_,_=>rfl
 | [],y::b,h,_=>by cases h
 | x::a,[],_,h=>by cases h
 | x::a,y::b,h,k=>by
   rw[eZ] at h k
   by_cases h1:x < y
   ·rw[if_pos h1] at h;cases h
   ·by_cases h2:y < x
    ·rw[if_pos h2] at k;cases k
    ·rw[if_neg h1,if_neg h2] at h
     rw[if_neg h2,if_neg h1] at k
     rw[AH h k,show x=y by omega]
def rle (a b:Row):Prop:=earlier b a=false
theorem sN (a:Row):rle a a:=yU a
theorem u7:∀ {a b c:Row},rle a b→rle b c→rle a c
 | [],_,[],_,_=>rfl
 | [],_,_::_,_,_=>rfl
 | x::a,[],c,h,_=>by cases h
 | x::a,y::b,[],_,h=>by cases h
 | x::a,y::b,z::c,h,k=>by
   unfold rle at *
   rw[eZ] at *
   by_cases h1:y < x
   ·rw[if_pos h1] at h;cases h
   ·by_cases k1:z < y
    ·rw[if_pos k1] at k;cases k
    ·rw[if_neg (by omega)]
     by_cases h2:x < z
     ·rw[if_pos h2]
     ·rw[if_neg h2]
      rw[if_neg h1,if_neg (by omega)] at h
      rw[if_neg k1,if_neg (by omega)] at k
      exact u7 (a:=a) (b:=b) (c:=c) h k
theorem R4 (a b:Row):rle a b∨rle b a:=by
 unfold rle
 cases h:earlier b a with
 | false=>exact .inl rfl
 | true=>exact .inr (pX h)
theorem Ti {a b:Row} (h:rle a b) (k:rle b a):a=b:=AH k h
theorem Q1 (c:Row) {a b:Row} (h:rle a b):rle (c++a) (c++b):=by
 induction c with
 | nil=>exact h
 | cons x c ih=>
   show earlier (x::(c++b)) (x::(c++a))=false
   rw[eZ,if_neg (by omega),if_neg (by omega)]
   exact ih
theorem Mc:∀ {a b:Row} (d:Row),a.length=b.length→rle a b→rle (a++d) (b++d)
 | [],[],d,_,_=>sN d
 | [],_::_,_,e,_=>by cases e
 | _::_,[],_,e,_=>by cases e
 | x::a,y::b,d,e,h=>by
   unfold rle at *
   show earlier (y::(b++d)) (x::(a++d))=false
   rw[eZ] at *
   by_cases h1:y < x
   ·rw[if_pos h1] at h;cases h
   ·rw[if_neg h1] at h ⊢
    by_cases h2:x < y
    ·rw[if_pos h2]
    ·rw[if_neg h2] at h ⊢
     exact Mc d (by simpa using e) h
def ble (x y:Nat×Row):Prop:=x.1 < y.1∨(x.1=y.1∧rle x.2 y.2)
theorem U6 (x:Nat×Row):ble x x:=.inr ⟨rfl,sN _⟩
theorem SM {x y z:Nat×Row} (h:ble x y) (k:ble y z):ble x z:=by
 rcases h with h | ⟨h,h'⟩<;>rcases k with k | ⟨k,k'⟩
 ·exact .inl (by omega)
 ·exact .inl (by omega)
 ·exact .inl (by omega)
 ·exact .inr ⟨by omega,u7 h' k'⟩
theorem U7 {x y:Nat×Row} (h:ble x y) (k:ble y x):x=y:=by
 obtain⟨a,r⟩:=x
 obtain⟨b,s⟩:=y
 rcases h with h | ⟨h,h'⟩<;>rcases k with k | ⟨k,k'⟩
 ·exact absurd h (by dsimp only at *;omega)
 ·exact absurd h (by dsimp only at *;omega)
 ·exact absurd k (by dsimp only at *;omega)
 ·have e:a=b:=h
  have e2:r=s:=Ti h' k'
  rw[e,e2]
def leq (x y:Best):Prop:=∀ b,y=some b→∃ a,x=some a∧ble a b
theorem iB (x:Best):leq x x:=fun b e=>⟨b,e,U6 b⟩
theorem C6 (x:Best):leq x none:=fun b e=>nomatch e
theorem EI {x y z:Best} (h:leq x y) (k:leq y z):leq x z:=fun c e=>by
 obtain⟨b,eb,h2⟩:=k c e
 obtain⟨a,ea,h1⟩:=h b eb
 exact⟨a,ea,SM h1 h2⟩
theorem Iv {x y:Best} (h:leq x y) (k:leq y x):x=y:=by
 cases x with
 | none=>
   cases y with
   | none=>rfl
   | some b=>
     obtain⟨a,e,_⟩:=h b rfl
     cases e
 | some a=>
   obtain⟨b,e,h1⟩:=k a rfl
   subst e
   obtain⟨a',e,h2⟩:=h b rfl
   obtain rfl:=aa e
   rw[U7 h2 h1]
theorem C5 {a b:Nat×Row}:leq (some a) (some b)↔ble a b:=⟨fun h=>by
 obtain⟨a',e,h⟩:=h b rfl
 obtain rfl:=aa e
 exact h,fun h c e=>by
 obtain rfl:=aa e
 exact⟨a,rfl,h⟩⟩
theorem T9 (x y:Best):leq (lesser x y) x:=by
 cases x with
 | none=>exact C6 _
 | some a=>
   cases y with
   | none=>rw[kj];exact iB _
   | some b=>
     rw[gu]
     split
     ·exact C5.mpr (.inl (by assumption))
     ·split
      ·exact iB _
      ·split
       ·exact C5.mpr (.inr ⟨by omega,pX (by assumption)⟩)
       ·exact iB _
theorem T8 (x y:Best):leq (lesser x y) y:=by
 cases x with
 | none=>rw[nF];exact iB _
 | some a=>
   cases y with
   | none=>exact C6 _
   | some b=>
     rw[gu]
     split
     ·exact iB _
     ·split
      ·exact C5.mpr (.inl (by assumption))
      ·split
       ·exact iB _
       ·exact C5.mpr (.inr ⟨by omega,by unfold rle;simpa using (by assumption:¬ earlier b.2 a.2=true)⟩)
theorem OY:∀ (l:List Best) (a:Best),leq (l.foldl lesser a) a∧∀ x∈l,leq (l.foldl lesser a) x
 | [],a=>⟨iB a,fun x h=>by cases h⟩
 | y::l,a=>by
   obtain⟨h1,h2⟩:=OY l (lesser a y)
   refine⟨EI h1 (T9 a y),fun x hx=>?_⟩
   rcases aC.mp hx with rfl | hx
   ·exact EI h1 (T8 a x)
   ·exact h2 x hx
theorem zg {l:List Best}{x:Best} (h:x∈l):leq (least l) x:=(OY l none).2 x h
theorem Lh {l:List Best}{x:Best} (h:∀ y∈l,leq x y):leq x (least l):=fun b e=>h _ (pL e) b rfl
theorem EJ (x:Best):least [x]=x:=rfl
inductive Sle:Row→Row→Prop
 | refl (a:Row):Sle a a
 | lt {x y:Nat} (a b:Row):x < y→Sle (x::a) (y::b)
 | cons (x:Nat) {a b:Row}:Sle a b→Sle (x::a) (x::b)
theorem Sle.rle {a b:Row} (h:Sle a b):rle a b:=by
 induction h with
 | refl a=>exact sN a
 | lt a b h=>
   show earlier _ _=false
   rw[eZ,if_neg (by omega),if_pos h]
 | cons x _ ih=>
   show earlier _ _=false
   rw[eZ,if_neg (by omega),if_neg (by omega)]
   exact ih
theorem Sle.pre (c:Row) {a b:Row} (h:Sle a b):Sle (c++a) (c++b):=by
 induction c with
 | nil=>exact h
 | cons x c ih=>exact .cons x ih
theorem Sle.app {a b c d:Row} (h:Sle a b) (k:Sle c d):Sle (a++c) (b++d):=by
 induction h with
 | refl a=>exact k.pre a
 | lt a b h=>exact .lt _ _ h
 | cons x _ ih=>exact .cons x ih
def Rel (v l:Best):Prop:=∀ z,v=some z→∃ y,l=some y∧(y.1 < z.1∨(y.1=z.1∧Sle y.2 z.2))
theorem Rel.refl (x:Best):Rel x x:=fun z e=>⟨z,e,.inr ⟨rfl,.refl _⟩⟩
theorem Rel.none (l:Best):Rel none l:=fun z e=>nomatch e
theorem Rel.leq {v l:Best} (h:Rel v l):leq l v:=fun b e=>by
 obtain⟨y,hy,h⟩:=h b e
 exact⟨y,hy,h.imp id fun k=>⟨k.1,k.2.rle⟩⟩
theorem Rel.held {v l:Best} (h:Rel v l):Rel (held v) (held l):=fun z e=>by
 rw[dQ] at e
 cases v with
 | none=>cases e
 | some u=>
   by_cases k:u.1≤PARTS
   ·rw[bO k] at e
    obtain rfl:=aa e
    obtain⟨y,rfl,h'⟩:=h u rfl
    rw[dQ]
    exact⟨y,bO (by omega),h'⟩
   ·rw[cD k] at e;cases e
def SW (x y:Row×Best):Prop:=x.1=y.1∧Rel x.2 y.2
theorem OX:∀ {l' l:List (Row×Best)},Two SW l' l→∀ (v a:Best),Rel v a→Rel (l'.foldl put v) (l.foldl put a)
 | _,_,.nil,v,a,h=>h
 | _,_,.cons (a:=x) (b:=y) hxy t,v,a,h=>by
   rw[bu,bu]
   refine OX t _ _ fun z e=>?_
   cases v with
   | none=>rw[va] at e;cases e
   | some v=>
     obtain⟨w,rfl,hw⟩:=h v rfl
     unfold put at e ⊢
     obtain⟨r,xv⟩:=x
     obtain⟨r',yv⟩:=y
     obtain⟨h1,h2⟩:=hxy
     dsimp only at h1 h2 e ⊢
     subst h1
     cases xv with
     | none=>cases e
     | some u=>
       obtain⟨q,rfl,hq⟩:=h2 u rfl
       have e:=aa e
       subst e
       refine⟨_,rfl,?_⟩
       dsimp only
       rcases hw with hw | ⟨hw,hw'⟩
       ·rcases hq with hq | ⟨hq,_⟩<;>exact .inl (by omega)
       ·rcases hq with hq | ⟨hq,hq'⟩
        ·exact .inl (by omega)
        ·exact .inr ⟨by omega,hw'.app ((Sle.refl _).app hq')⟩
theorem O8 {h:Row}{l' l:List (Row×Best)} (t:Two SW l' l):Rel (comp h l') (comp h l):=(OX t _ _ (Rel.refl _)).held
def pK (v l:Best):Prop:=∀ z,v=some z→∃ y,l=some y∧y.1 < z.1
theorem Ly:∀ {l' l:List (Row×Best)},Two SW l' l→∀ (v a:Best),pK v a→pK (l'.foldl put v) (l.foldl put a)
 | _,_,.nil,v,a,h=>h
 | _,_,.cons (a:=x) (b:=y) hxy t,v,a,h=>by
   rw[bu,bu]
   refine Ly t _ _ fun z e=>?_
   cases v with
   | none=>rw[va] at e;cases e
   | some v=>
     obtain⟨w,rfl,hw⟩:=h v rfl
     unfold put at e ⊢
     obtain⟨r,xv⟩:=x
     obtain⟨r',yv⟩:=y
     obtain⟨h1,h2⟩:=hxy
     dsimp only at h1 h2 e ⊢
     cases xv with
     | none=>cases e
     | some u=>
       obtain⟨q,rfl,hq⟩:=h2 u rfl
       have e:=aa e
       subst e
       refine⟨_,rfl,?_⟩
       dsimp only
       rcases hq with hq | ⟨hq,_⟩<;>omega
theorem pK.rel {v l:Best} (h:pK v l):Rel v l:=fun z e=>by
 obtain⟨y,hy,k⟩:=h z e
 exact⟨y,hy,.inl k⟩
end Ways
namespace Ways
open Kp190 KpFix
section
variable {K:a3→Best}
theorem Sk (ws:List a3):(ws.map fun w=>(([],w):List Nat×a3)).map (fun s=>(s.1,K s.2))=(ws.map K).map fun x=>(([]:Row),x):=by
 rw[bt,bt]
 rfl
theorem B6 (ws:List a3):val K (eD ws)=listOf (ws.map K):=by
 rw[c6,ae,← Sk]
 rfl
theorem PL (ns:List (Nat×a3)):val K (kg ns)=comp [3,ns.length] (ns.map fun x=>([x.1],K x.2)):=by
 unfold val raw kg comp
 dsimp only
 rw[bt]
 rfl
theorem Cu {l:List (Nat×Option Best)}{ns:List (Nat×a3)} (h:here l=ns.map fun x=>([x.1],K x.2)):recordOf l=val K (kg ns):=by
 rw[PL,eX,h,ae]
theorem GY (n:Nat) (w:a3):val K (iw n w)=choiceOf n (K w):=by
 rw[iY]
 show held (put (some (1,[4,n])) ([],K w))=held (put (some (1,[4])) ([n],K w))
 cases K w<;>rfl
theorem S5 (n:Nat):val K (lF n)=held (some (1+n,1::n::aj n 0)):=rfl
end
theorem Lr (T:Table):∀ fs:List Field,here (base T fs)=(rb fs).map fun f=>(([f.name]:Row),get T f.of_)
 | []=>rfl
 | f::fs=>by
   have ih:=Lr T fs
   unfold here base rb at *
   rw[aU,cF,ya]
   cases hf:f.opt with
   | true=>simpa [hf] using ih
   | false=>
     simp only[hf,ia,if_false,Bool.not_false,if_true,aU,Option.map_some]
     rw[ih]
theorem Lq (T:Table) (k:Nat) (v:Best):∀ fs:List Field,here (fieldsWith T fs k v)=fs.filterMap fun f=>if f.name=k then some (([f.name]:Row),v) else if f.opt then none else some ([f.name],get T f.of_)
 | []=>rfl
 | f::fs=>by
   have ih:=Lq T k v fs
   unfold here fieldsWith at *
   rw[aU,cF,cF,ih]
   dsimp only
   by_cases h:f.name=k
   ·simp[h]
   ·cases hf:f.opt<;>simp[h,hf]
theorem Pc {K:a3→Best}{T:Table}{N:Nat} (hK:∀ n,n < N→K (i9 n)=get T n) {fs:List Field} (hfs:∀ f∈fs,f.of_ < N) (k:Nat) (w:a3):recordOf (fieldsWith T fs k (K w))=val K (oz fs k w):=by
 unfold oz
 refine Cu ?_
 rw[Lq]
 induction fs with
 | nil=>rfl
 | cons f fs ih=>
   have ih:=ih fun g hg=>hfs g (aG _ hg)
   rw[cF,cF]
   by_cases h:f.name=k
   ·simp only[h,if_true,aU]
    rw[← ih]
   ·cases hf:f.opt with
    | true=>simp only[h,hf,if_false,if_true];exact ih
    | false=>
      simp only[h,hf,if_false,ia,aU]
      rw[← ih,hK _ (hfs f (aI ..))]
theorem pW {α β:Type} (f:α→β) (n:Nat) (x:α):(aj n x).map f=aj n (f x):=kH
theorem jJ {K:a3→Best}{T:Table}{N:Nat} (hK:∀ n,n < N→K (i9 n)=get T n) {x:Form} (hx:∀ n∈refers x,n < N):leastOf T x=best K (jF x):=by
 cases x with
 | num lo hi=>rfl
 | text m=>rfl
 | list o lo hi=>
   show listOf (aj lo (get T o))=least [val K (eD (aj lo (i9 o)))]
   rw[EJ,B6,pW,hK o (hx o (by simp[refers]))]
 | record fs=>
   show recordOf (base T fs)=least [val K (kg ((rb fs).map fun f=>(f.name,i9 f.of_)))]
   rw[EJ]
   refine Cu ?_
   rw[Lr,bt]
   refine bF fun f hf=>?_
   have hf':f∈fs:=(eL.mp hf).1
   show _=(([f.name]:Row),K (i9 f.of_))
   rw[hK _ (hx _ (ay.mpr ⟨f,hf',rfl⟩))]
 | choice fs=>
   show least (fs.map fun x=>choiceOf x.name (get T x.of_))=least ((fs.map fun f=>iw f.name (i9 f.of_)).map (val K))
   rw[bt]
   congr 1
   refine bF fun f hf=>?_
   show _=val K (iw f.name (i9 f.of_))
   rw[GY,hK _ (hx _ (ay.mpr ⟨f,hf,rfl⟩))]
theorem Dg (p:Nat) (Y:Row):∀ (i:Nat) (a:Nat) (r:Row),(aj i (([]:Row),(some (p,Y):Best))).foldl put (some (a,r))=some (a+i * p,r++(aj i Y).flatten)
 | 0,a,r=>by simp
 | i+1,a,r=>by
   rw[cv,bu]
   show(aj i _).foldl put (some (a+p,r++([]++Y)))=_
   rw[Dg p Y i,cv,eC,dm,bK,Nat.succ_mul]
   congr 2
   omega
theorem Ip (n p:Nat) (Y:Row):listOf (aj n (some (p,Y)))=held (some (1+n * p,[2,n]++(aj n Y).flatten)):=by
 rw[c6,pW,aX]
 unfold comp
 rw[Dg]
theorem OD (n:Nat):listOf (aj (n+1) none)=none:=by
 rw[c6,pW]
 unfold comp
 show held ((aj n (([]:Row),(none:Best))).foldl put none)=none
 rw[ie]
 rfl
theorem Ro {a b:Nat}{r s:Row} (h:a < b):pK (held (some (b,s))) (held (some (a,r))):=fun z e=>by
 rw[dQ] at e
 by_cases k:b≤PARTS
 ·rw[bO (y:=(b,s)) k] at e
  obtain rfl:=aa e
  rw[dQ]
  exact⟨(a,r),bO (y:=(a,r)) (by show a≤PARTS;omega),h⟩
 ·rw[cD (y:=(b,s)) k] at e
  cases e
theorem OE {l:Best} (hl:Fit l) {a c:Nat} (h:a < c):pK (listOf (aj c l)) (listOf (aj a l)):=by
 cases l with
 | none=>
   obtain⟨c,rfl⟩:∃ c',c=c'+1:=⟨c - 1,by omega⟩
   rw[OD]
   exact fun z e=>nomatch e
 | some y=>
   obtain⟨p,Y⟩:=y
   have hp:1≤p:=(hl _ rfl).1
   rw[Ip,Ip]
   refine Ro ?_
   have:a * p < c * p:=Nat.mul_lt_mul_of_pos_right h (by omega)
   omega
theorem Le {l:Best} (hl:Fit l) {a c:Nat} (h:a≤c):Rel (listOf (aj c l)) (listOf (aj a l)):=by
 rcases qd a c with q | q
 ·exact(OE hl q).rel
 ·rw[show c=a by omega]
  exact Rel.refl _
def at_ (i m:Nat) (v l:Best):List Best:=aj i l++v::aj m l
theorem U8 (n i:Nat) (h:i < n) (v l:Best):((bS n).map fun j=>if j=i then v else l)=at_ i (n - 1 - i) v l:=by
 unfold at_
 refine List.ext_getElem ?_ fun j h1 h2=>?_
 ·rw[ae,bJ,au,aM,aX,aX]
  omega
 ·rw[List.getElem_map,List.getElem_range,List.getElem_append]
  by_cases hj:j < (aj i l).length
  ·rw[dif_pos hj]
   rw[aX] at hj
   rw[if_neg (by omega),List.getElem_replicate]
  ·rw[dif_neg hj,List.getElem_cons]
   rw[aX] at hj
   by_cases hk:j - (aj i l).length=0
   ·rw[dif_pos hk]
    rw[aX] at hk
    rw[if_pos (by omega)]
   ·rw[dif_neg hk]
    rw[aX] at hk
    rw[if_neg (by omega),List.getElem_replicate]
theorem Lg {i m q p:Nat}{X Y:Row}:listOf (at_ i m (some (q,X)) (some (p,Y)))=held (some (1+i * p+q+m * p,[2,i+(m+1)]++(aj i Y).flatten++X++(aj m Y).flatten)):=by
 unfold at_
 rw[c6,aJ,aU,pW,pW,au,aM,aX,aX]
 unfold comp
 rw[gh,Dg,bu]
 show held ((aj m _).foldl put (some (1+i * p+q,_++([]++X))))=_
 rw[Dg,dm]
theorem OF {i m:Nat}{l:Best}:listOf (at_ i m none l)=none:=by
 unfold at_
 rw[c6,aJ,aU]
 unfold comp
 rw[gh,bu]
 have:∀ a:Best,put a (([]:Row),(none:Best))=none:=fun a=>by cases a<;>rfl
 rw[this,ie]
 rfl
theorem OG {i m:Nat}{v:Best} (h:0 < i+m):listOf (at_ i m v none)=none:=by
 unfold at_
 rw[c6,aJ,aU,pW,pW]
 unfold comp
 generalize (some (1,[2,(aj i (none:Best)++v::aj m none).length]):Best)=a
 have nn:∀ a:Best,put a (([]:Row),(none:Best))=none:=fun a=>by cases a<;>rfl
 rw[gh]
 cases i with
 | succ i=>
   show held ((([],v)::aj m ([],none)).foldl put ((aj i (([]:Row),(none:Best))).foldl put (put a ([],none))))=none
   rw[nn,ie,ie]
   rfl
 | zero=>
   obtain⟨m,rfl⟩:∃ c,m=c+1:=⟨m - 1,by omega⟩
   show held ((aj m (([]:Row),(none:Best))).foldl put (put (put a ([],v)) ([],none)))=none
   rw[nn,ie]
   rfl
theorem LA (Y:Row):∀ i,(aj i Y).flatten++Y=Y++(aj i Y).flatten
 | 0=>by simp
 | i+1=>by
   rw[cv,eC,bK,LA Y i]
def JP (c:Row) (i m:Nat) (X Y:Row):Row:=c++(aj i Y).flatten++X++(aj m Y).flatten
theorem WH (c:Row) (i m:Nat) (X Y:Row):JP c (i+1) m X Y=(c++(aj i Y).flatten)++((Y++X)++(aj m Y).flatten):=by
 unfold JP
 rw[cv,eC,← LA]
 simp only[bK]
theorem WG (c:Row) (i m:Nat) (X Y:Row):JP c i (m+1) X Y=(c++(aj i Y).flatten)++((X++Y)++(aj m Y).flatten):=by
 unfold JP
 rw[cv,eC]
 simp only[bK]
theorem K0 (c X Y:Row) (h:rle (X++Y) (Y++X)):∀ i m,rle (JP c 0 (i+m) X Y) (JP c i m X Y)
 | 0,m=>by rw[fD];exact sN _
 | i+1,m=>by
   have ih:=K0 c X Y h i (m+1)
   rw[show i+1+m=i+(m+1) by omega]
   refine u7 ih ?_
   rw[WH,WG]
   exact Q1 _ (Mc _ (by rw[au,au];omega) h)
theorem NV (c X Y:Row) (h:rle (Y++X) (X++Y)):∀ m i,rle (JP c (i+m) 0 X Y) (JP c i m X Y)
 | 0,i=>sN _
 | m+1,i=>by
   have ih:=NV c X Y h m (i+1)
   rw[show i+(m+1)=i+1+m by omega]
   refine u7 ih ?_
   rw[WH,WG]
   exact Q1 _ (Mc _ (by rw[au,au];omega) h)
theorem place (v l:Best) (i m:Nat):leq (listOf (at_ 0 (i+m) v l)) (listOf (at_ i m v l))∨leq (listOf (at_ (i+m) 0 v l)) (listOf (at_ i m v l)):=by
 cases v with
 | none=>rw[OF (i:=i)];exact .inl (C6 _)
 | some v=>
   obtain⟨q,X⟩:=v
   cases l with
   | none=>
     rcases FD (i+m) with h | h
     ·obtain⟨rfl,rfl⟩:i=0∧m=0:=by omega
      exact .inl (iB _)
     ·rw[OG (i:=i) h]
      exact .inl (C6 _)
   | some l=>
     obtain⟨p,Y⟩:=l
     have parts:∀ a b,a+b=i+m→1+a * p+q+b * p=1+i * p+q+m * p:=fun a b h=>by
      have:a * p+b * p=i * p+m * p:=by rw[← Nat.add_mul,← Nat.add_mul,h]
      omega
     have key:∀ a b,a+b=i+m→rle (JP [2,i+(m+1)] a b X Y) (JP [2,i+(m+1)] i m X Y)→leq (listOf (at_ a b (some (q,X)) (some (p,Y)))) (listOf (at_ i m (some (q,X)) (some (p,Y)))):=fun a b h hr=>by
      rw[Lg,Lg,parts a b h,show a+(b+1)=i+(m+1) by omega,dQ,dQ]
      intro z e
      by_cases k:1+i * p+q+m * p≤PARTS
      ·rw[bO (y:=(_,_)) k] at e ⊢
       obtain rfl:=aa e
       exact⟨_,rfl,.inr ⟨rfl,hr⟩⟩
      ·rw[cD (y:=(_,_)) k] at e;cases e
     rcases R4 (X++Y) (Y++X) with h | h
     ·exact .inl (key 0 (i+m) (by omega) (K0 _ X Y h i m))
     ·exact .inr (key (i+m) 0 (by omega) (NV _ X Y h m i))
end Ways
namespace Ways
open Kp190 KpFix
theorem G9:∀ l:List (Row×Best),Two SW l l:=Two.same fun x=>⟨rfl,Rel.refl _⟩
def Rt (x y:Best):Prop:=∀ z,x=some z→∃ y',y=some y'∧y'.1=z.1
theorem Dh:∀ (l:List (Row×Best)) (x y:Best),Rt x y→Rt (l.foldl put x) (l.foldl put y)
 | [],x,y,h=>h
 | u::l,x,y,h=>by
   rw[bu,bu]
   refine Dh l _ _ fun z e=>?_
   cases x with
   | none=>rw[va] at e;cases e
   | some x=>
     obtain⟨y',rfl,hy⟩:=h x rfl
     obtain⟨r,u⟩:=u
     cases u with
     | none=>cases e
     | some q=>
       obtain rfl:=aa e
       exact⟨_,rfl,by show y'.1+q.1=x.1+q.1;omega⟩
theorem O0 {a c:List (Row×Best)}{x:Row×Best} (hx:∀ z,x.2=some z→1≤z.1) (h h':Row) (n:Nat):pK ((a++x::c).foldl put (some (n,h'))) ((a++c).foldl put (some (n,h))):=by
 rw[gh,gh,bu]
 refine Ly (G9 c) _ _ fun z e=>?_
 have e0:=Dh a (some (n,h')) (some (n,h)) fun z e=>⟨_,rfl,by obtain rfl:=aa e;rfl⟩
 cases e1:a.foldl put (some (n,h')) with
 | none=>rw[e1,va] at e;cases e
 | some y=>
   rw[e1] at e
   obtain⟨y',hy,hp⟩:=e0 y e1
   obtain⟨r,u⟩:=x
   cases u with
   | none=>cases e
   | some q=>
     obtain rfl:=aa e
     have:=hx q rfl
     exact⟨y',hy,by show y'.1 < y.1+q.1;omega⟩
theorem Qz (T:Table) (fs:List Field) (k:Nat) (v:Best):∀ (a c:List Field) (x:Field),fs=a++x::c→(∀ f∈a++c,f.name≠k)→x.name=k→
 here (fieldsWith T fs k v)=here (base T a)++([x.name],v)::here (base T c):=by
 intro a c x e hn hx
 subst e
 have other:∀ l:List Field,(∀ f∈l,f.name≠k)→here (fieldsWith T l k v)=here (base T l):=fun l hl=>by
  unfold fieldsWith base
  congr 1
  exact bF fun f hf=>by rw[if_neg (hl f hf)]
 have app:∀ l m:List (Nat×Option Best),here (l++m)=here l++here m:=fun l m=>lr ..
 have e1:fieldsWith T (a++x::c) k v=fieldsWith T a k v++(x.name,some v)::fieldsWith T c k v:=by
  unfold fieldsWith
  rw[aJ,aU,if_pos hx]
 rw[e1,app,other a fun f hf=>hn f (aQ _ hf)]
 congr 1
 show([x.name],v)::here (fieldsWith T c k v)=_
 rw[other c fun f hf=>hn f (aO _ hf)]
theorem QN (T:Table) (a c:List Field) (x:Field):here (base T (a++x::c))=here (base T a)++((if x.opt then [] else [(([x.name]:Row),get T x.of_)])++here (base T c)):=by
 have app:∀ l m:List (Nat×Option Best),here (l++m)=here l++here m:=fun l m=>lr ..
 unfold base
 rw[aJ,aU,app]
 congr 1
 cases hx:x.opt<;>simp[here,hx]
theorem Vx {α β:Type}{R:α→β→Prop}{a:List α}{b:List β}{c:List α}{d:List β} (h:Two R a b) (k:Two R c d):Two R (a++c) (b++d):=Two.append h k
theorem Fh {fs a c:List Field}{x:Field} (e:fs=a++x::c) (nd:(fs.map fun f=>f.name).Nodup):∀ f∈a++c,f.name≠x.name:=by
 subst e
 rw[aJ,aU] at nd
 obtain⟨h1,h2,h3⟩:=ly.mp nd
 intro f hf z
 rcases az.mp hf with q | q
 ·exact h3 _ (ay.mpr ⟨f,q,rfl⟩) _ (aI ..) z
 ·exact(c7.mp h2).1 (ay.mpr ⟨f,q,z⟩)
theorem Ct {T:Table}{fs:List Field} (nd:(fs.map fun f=>f.name).Nodup) {x:Field} (hx:x∈fs) {v:Best} (hv:Rel v (get T x.of_)) (hf:Fit v):Rel (recordOf (fieldsWith T fs x.name v)) (recordOf (base T fs)):=by
 obtain⟨a,c,e⟩:=List.append_of_mem hx
 have h1:=Qz T fs x.name v a c x e (Fh e nd) rfl
 have h2:=QN T a c x
 rw[← e] at h2
 rw[eX,eX,h1,h2]
 cases ho:x.opt with
 | true=>
   simp only[if_true,dm]
   unfold comp
   exact((O0 (fun z e=>(hf z e).1) _ _ _).rel).held
 | false=>
   simp only[ia,if_false,mW,dm]
   have t:Two SW (here (base T a)++([x.name],v)::here (base T c)) (here (base T a)++([x.name],get T x.of_)::here (base T c)):=Vx (G9 _) (.cons ⟨rfl,hv⟩ (G9 _))
   rw[t.len]
   exact O8 t
theorem AI {n:Nat}{x:Best}{z:Nat×Row} (e:choiceOf n x=some z):∃ q X,x=some (q,X)∧q+1≤PARTS∧z=(q+1,4::n::X):=by
 cases x with
 | none=>cases e
 | some y=>
   have e:held (some (y.1+1,4::n::y.2))=some z:=e
   rw[dQ] at e
   by_cases k:y.1+1≤PARTS
   ·rw[bO (y:=(_,_)) k] at e
    exact⟨y.1,y.2,rfl,k,(aa e).symm⟩
   ·rw[cD (y:=(_,_)) k] at e;cases e
theorem O9 {n q:Nat}{X:Row} (h:q+1≤PARTS):choiceOf n (some (q,X))=some (q+1,4::n::X):=by
 show held (some (q+1,4::n::X))=_
 rw[dQ,bO (y:=(_,_)) h]
theorem Hz {T:Table}{fs:List Field} (nd:(fs.map fun f=>f.name).Nodup) {x:Field} (hx:x∈fs) {v:Best} (hv:Rel v (get T x.of_)):Rel (choiceOf x.name v) (least (fs.map fun x=>choiceOf x.name (get T x.of_))):=by
 intro z e
 obtain⟨q,X,rfl,hq,rfl⟩:=AI e
 obtain⟨⟨p,Y⟩,hl,hp⟩:=hv (q,X) rfl
 dsimp only at hp
 have hpq:p≤q:=by rcases hp with hp | ⟨hp,_⟩<;>omega
 have hm:some (p+1,4::x.name::Y)∈fs.map fun x=>choiceOf x.name (get T x.of_):=ay.mpr ⟨x,hx,by rw[hl];exact O9 (by omega)⟩
 obtain⟨y,hy,hle⟩:=zg hm _ rfl
 refine⟨y,hy,?_⟩
 obtain⟨f,hf,ef⟩:=ay.mp (pL hy)
 obtain⟨p',Y',hl',hp',rfl⟩:=AI ef
 dsimp only[ble] at hle ⊢
 rcases hle with h | ⟨h,hr⟩
 ·exact .inl (by omega)
 ·rcases hp with hp | ⟨hp,hs⟩
  ·exact .inl (by omega)
  ·refine .inr ⟨by omega,?_⟩
   by_cases hn:f.name=x.name
   ·have hfx:f=x:=by
     obtain⟨a,c,e⟩:=List.append_of_mem hx
     by_cases h1:f=x
     ·exact h1
     ·have:f∈a++c:=by
       rw[e] at hf
       rcases az.mp hf with q | q
       ·exact aQ _ q
       ·rcases aC.mp q with q | q
        ·exact absurd q h1
        ·exact aO _ q
      exact absurd hn (Fh e nd f this)
    subst hfx
    rw[hl] at hl'
    obtain⟨_,rfl⟩:=aV (aa hl')
    exact .cons 4 (.cons _ hs)
   ·have hr:rle (4::f.name::Y') (4::x.name::Y):=hr
    unfold rle at hr
    rw[eZ,if_neg (by omega),if_neg (by omega),eZ] at hr
    by_cases h1:x.name < f.name
    ·rw[if_pos h1] at hr;cases hr
    ·exact .cons 4 (.lt _ _ (by omega))
def Ku:Form→Prop
 | .list _ lo hi=>lo≤hi
 | .record fs=>(fs.map fun f=>f.name).Nodup
 | .choice fs=>(fs.map fun f=>f.name).Nodup
 | _=>True
theorem Ek {l:List Best}{m:Best} (h:∀ x∈l,Rel x m):Rel (least l) m:=fun z e=>h _ (pL e) z rfl
theorem P9 {c:Prop} [Decidable c] {x m:Best} (h:Rel x m):Rel (if c then x else none) m:=by
 split
 ·exact h
 ·exact Rel.none _
theorem QH {b:Book}{T W:Table}{N:Nat} (hT:∀ i,Fit (get T i)) (hWf:∀ i,Fit (get W i)) (hW:∀ s t,s < N→t < N→Rel (pair b W s t) (get T s)) {x y:Form} (hx:∀ n∈refers x,n < N) (hy:∀ n∈refers y,n < N) (nx:Ku x):Rel (differ b T W x y) (leastOf T x):=by
 cases x with
 | num lo hi=>
   cases y with
   | num lo2 hi2=>
     show Rel (if lo < lo2∨hi2 < lo then some (1,[0,lo]) else if hi2 < hi then some (1,[0,hi2+1]) else none) (some (1,[0,lo]))
     split
     ·exact Rel.refl _
     ·refine P9 fun z e=>?_
      obtain rfl:=aa e
      exact⟨_,rfl,.inr ⟨rfl,.cons 0 (.lt _ _ (by omega))⟩⟩
   | _=>exact Rel.refl _
 | text m=>
   cases y with
   | text m2=>
     show Rel (if m2 < m then held (some (m2+2,1::(m2+1)::aj (m2+1) 0)) else none) (some (1,[1,0]))
     exact P9 (Ro (r:=[1,0]) (a:=1) (by omega)).rel
   | _=>exact Rel.refl _
 | list o lo hi=>
   cases y with
   | list o2 lo2 hi2=>
     have ho:o < N:=hx o (by simp[refers])
     have ho2:o2 < N:=hy o2 (by simp[refers])
     show Rel (least ([if lo < lo2∨hi2 < lo then listOf (aj lo (get T o)) else none,if lo≤hi2+1∧hi2+1≤hi then listOf (aj (hi2+1) (get T o)) else none]++
      if max 1 lo≤hi then (bS (max 1 lo)).map fun i=>listOf ((bS (max 1 lo)).map fun j=>if j=i then pair b W o o2 else get T o) else [])) (listOf (aj lo (get T o)))
     refine Ek fun z hz=>?_
     rcases az.mp hz with hz | hz
     ·rcases aC.mp hz with rfl | hz
      ·exact P9 (Rel.refl _)
      ·rw[ag.mp hz]
       split
       ·exact Le (hT o) (by omega)
       ·exact Rel.none _
     ·split at hz
      ·obtain⟨i,hi',rfl⟩:=ay.mp hz
       have hi':=hX.mp hi'
       rcases FD lo with h0 | h0
       ·subst h0
        have e:max 1 0=1:=rfl
        have hi0:i=0:=by omega
        subst hi0
        show Rel (listOf [pair b W o o2]) (listOf [])
        rw[c6,c6]
        unfold comp
        exact(O0 (a:=[]) (c:=[]) (fun z e=>(hWf _ z e).1) [2,0] [2,1] 1).rel.held
       ·have e:max 1 lo=lo:=by omega
        rw[e,c6,c6]
        have t:Two SW (((bS lo).map fun j=>if j=i then pair b W o o2 else get T o).map fun x=>(([]:Row),x)) ((aj lo (get T o)).map fun x=>(([]:Row),x)):=by
         rw[show aj lo (get T o)=(bS lo).map fun _=>get T o from by
          rw[List.map_const',bJ]]
         rw[bt,bt]
         refine B9 fun j _=>⟨rfl,?_⟩
         show Rel (if j=i then pair b W o o2 else get T o) (get T o)
         split
         ·exact hW o o2 ho ho2
         ·exact Rel.refl _
        rw[ae,bJ,aX]
        exact O8 t
      ·cases hz
   | _=>exact Rel.refl _
 | record fs=>
   cases y with
   | record fs2=>
     have nd:(fs.map fun f=>f.name).Nodup:=nx
     refine Ek fun z hz=>?_
     rcases az.mp hz with hz | hz
     ·split at hz
      ·rw[ag.mp hz]
       exact Rel.refl _
      ·cases hz
     ·obtain⟨f,hf,rfl⟩:=ay.mp hz
      have hfN:f.of_ < N:=hx _ (ay.mpr ⟨f,hf,rfl⟩)
      split
      ·exact Ct nd hf (Rel.refl _) (hT _)
      ·rename_i g hg
       exact Ct nd hf (hW _ _ hfN (hy _ (ay.mpr ⟨g,eW hg,rfl⟩))) (hWf _)
   | _=>exact Rel.refl _
 | choice fs=>
   cases y with
   | choice fs2=>
     have nd:(fs.map fun f=>f.name).Nodup:=nx
     refine Ek fun z hz=>?_
     obtain⟨f,hf,rfl⟩:=ay.mp hz
     have hfN:f.of_ < N:=hx _ (ay.mpr ⟨f,hf,rfl⟩)
     split
     ·exact Hz nd hf (Rel.refl _)
     ·rename_i g hg
      exact Hz nd hf (hW _ _ hfN (hy _ (ay.mpr ⟨g,eW hg,rfl⟩)))
   | _=>exact Rel.refl _
theorem Uc (fs fs2:List Field):sZ fs fs2=fs2.any (fun y=>!y.opt && !(fs.any fun x=>x.name == y.name && !x.opt)):=by
 unfold sZ rb
 rw[i8,jO,jO]
 have key:∀ y:Field,(((fs.filter fun f=>!f.opt).map fun x=>x.name).contains y.name)=(fs.any fun x=>x.name == y.name && !x.opt):=fun y=>by
  rw[i8,lu,jO]
  constructor
  ·intro h
   obtain⟨x,hx,e⟩:=ay.mp h
   obtain⟨h1,h2⟩:=eL.mp hx
   exact⟨x,h1,by rw[e];simpa using h2⟩
  ·rintro⟨x,hx,h⟩
   rw[a5,beq_iff_eq] at h
   exact ay.mpr ⟨x,eL.mpr ⟨hx,h.2⟩,h.1⟩
 constructor
 ·rintro⟨y,hy,h⟩
  obtain⟨h1,h2⟩:=eL.mp hy
  exact⟨y,h1,by rw[key] at h;rw[h2,h];rfl⟩
 ·rintro⟨y,hy,h⟩
  rw[a5] at h
  exact⟨y,eL.mpr ⟨hy,h.1⟩,by rw[key];exact h.2⟩
theorem Iy {l l':List Best} (h:∀ z,some z∈l'→∃ x∈l,leq x (some z)):leq (least l) (least l'):=fun b e=>by
 obtain⟨x,hx,hxy⟩:=h b (pL e)
 exact EI (zg hx) hxy b rfl
theorem KW {K:a3→Best}{b:Book}{T W:Table}{N:Nat} (hK:∀ n,n < N→K (i9 n)=get T n) (hP:∀ s t:Nat,s < N→t < N→K ((s:Int),(t:Int))=pair b W s t) {fs2:List Field} (hy:∀ g∈fs2,g.of_ < N) {f:Field} (hf:f.of_ < N):
 K ((f.of_:Int),taken fs2 f.name)=(match fs2.find? fun y=>y.name == f.name with | none=>get T f.of_ | some y=>pair b W f.of_ y.of_):=by
 unfold taken
 cases e:fs2.find? fun y=>y.name == f.name with
 | none=>exact hK _ hf
 | some y=>exact hP _ _ hf (hy y (eW e))
theorem O6 {K:a3→Best}{b:Book}{T W:Table}{N:Nat} (hK:∀ n,n < N→K (i9 n)=get T n) (hP:∀ s t:Nat,s < N→t < N→K ((s:Int),(t:Int))=pair b W s t) (hT:∀ i,Fit (get T i)) (hWf:∀ i,Fit (get W i))
 (hW:∀ s t,s < N→t < N→Rel (pair b W s t) (get T s)) {x y:Form} (hx:∀ n∈refers x,n < N) (hy:∀ n∈refers y,n < N) (nx:Ku x):differ b T W x y=best K (mX x y):=by
 cases x with
 | num lo hi=>
   cases y with
   | num lo2 hi2=>
     show(if lo < lo2∨hi2 < lo then some (1,[0,lo]) else if hi2 < hi then some (1,[0,hi2+1]) else none)=best K (match outside lo hi lo2 hi2 with | some v=>[yP v] | none=>[])
     unfold outside
     by_cases h:lo < lo2∨hi2 < lo
     ·rw[if_pos h,if_pos h];rfl
     ·rw[if_neg h,if_neg h]
      by_cases k:hi2 < hi
      ·rw[if_pos k,if_pos k];rfl
      ·rw[if_neg k,if_neg k];rfl
   | _=>exact jJ hK hx
 | text m=>
   cases y with
   | text m2=>
     show(if m2 < m then held (some (m2+2,1::(m2+1)::aj (m2+1) 0)) else none)=best K (match outside 0 m 0 m2 with | some v=>[lF v] | none=>[])
     have eo:outside 0 m 0 m2=if m2 < m then some (m2+1) else none:=by
      unfold outside
      rw[if_neg (show ¬ (0 < 0∨m2 < 0) by omega)]
     rw[eo]
     by_cases k:m2 < m
     ·rw[if_pos k,if_pos k]
      show _=least [val K (lF (m2+1))]
      rw[EJ,S5,show 1+(m2+1)=m2+2 by omega]
     ·rw[if_neg k,if_neg k];rfl
   | _=>exact jJ hK hx
 | list o lo hi=>
   cases y with
   | list o2 lo2 hi2=>
     have ho:o < N:=hx o (by simp[refers])
     have ho2:o2 < N:=hy o2 (by simp[refers])
     show least ([if lo < lo2∨hi2 < lo then listOf (aj lo (get T o)) else none,if lo≤hi2+1∧hi2+1≤hi then listOf (aj (hi2+1) (get T o)) else none]++
      if max 1 lo≤hi then (bS (max 1 lo)).map fun i=>listOf ((bS (max 1 lo)).map fun j=>if j=i then pair b W o o2 else get T o) else [])=
      least ((l8 o lo hi o2++(match outside lo hi lo2 hi2 with | some n=>[eD (aj n (i9 o))] | none=>[])).map (val K))
     have W9:∀ n,val K (eD (aj n (i9 o)))=listOf (aj n (get T o)):=fun n=>by rw[B6,pW,hK o ho]
     have v1:val K (eD ([((o:Int),(o2:Int))]++aj (max 1 lo - 1) (i9 o)))=listOf (at_ 0 (max 1 lo - 1) (pair b W o o2) (get T o)):=by
      rw[B6,aJ,pW,hK o ho]
      show listOf (K ((o:Int),(o2:Int))::_)=_
      rw[hP o o2 ho ho2]
      rfl
     have v2:val K (eD (aj (max 1 lo - 1) (i9 o)++[((o:Int),(o2:Int))]))=listOf (at_ (max 1 lo - 1) 0 (pair b W o o2) (get T o)):=by
      rw[B6,aJ,pW,hK o ho]
      show listOf (_++[K ((o:Int),(o2:Int))])=_
      rw[hP o o2 ho ho2]
      rfl
     have inn:∀ z,z∈(l8 o lo hi o2).map (val K)↔max 1 lo≤hi∧(z=listOf (at_ 0 (max 1 lo - 1) (pair b W o o2) (get T o))∨z=listOf (at_ (max 1 lo - 1) 0 (pair b W o o2) (get T o))):=fun z=>by
      unfold l8
      by_cases h:hi < max 1 lo
      ·rw[if_pos h]
       exact⟨(fun q=>by cases q),fun q=>absurd h (by omega)⟩
      ·rw[if_neg h,aU,aU,tX,v1,v2]
       constructor
       ·intro hz
        rcases aC.mp hz with hz | hz
        ·exact⟨by omega,.inl hz⟩
        ·exact⟨by omega,.inr (ag.mp hz)⟩
       ·rintro⟨_,rfl | rfl⟩
        ·exact aI ..
        ·exact aG _ (ag.mpr rfl)
     have mid:∀ z,z∈(if max 1 lo≤hi then (bS (max 1 lo)).map fun i=>listOf ((bS (max 1 lo)).map fun j=>if j=i then pair b W o o2 else get T o) else [])↔max 1 lo≤hi∧∃ i,i < max 1 lo∧z=listOf (at_ i (max 1 lo - 1 - i) (pair b W o o2) (get T o)):=fun z=>by
      by_cases h:max 1 lo≤hi
      ·rw[if_pos h,ay]
       constructor
       ·rintro⟨i,hi',rfl⟩
        have hi':=hX.mp hi'
        exact⟨h,i,hi',by rw[U8 _ _ hi']⟩
       ·rintro⟨_,i,hi',rfl⟩
        exact⟨i,hX.mpr hi',by rw[U8 _ _ hi']⟩
      ·rw[if_neg h]
       exact⟨(fun q=>by cases q),fun q=>absurd q.1 h⟩
     rw[aJ]
     refine Iv (Iy fun z hz=>?_) (Iy fun z hz=>?_)
     ·rcases az.mp hz with hz | hz
      ·obtain⟨h,hz⟩:=(inn _).mp hz
       refine⟨some z,aO _ ((mid _).mpr ⟨h,?_⟩),iB _⟩
       rcases hz with hz | hz
       ·exact⟨0,by omega,by rw[hz];rfl⟩
       ·exact⟨max 1 lo - 1,by omega,by rw[hz,mZ]⟩
      ·unfold outside at hz
       by_cases h:lo < lo2∨hi2 < lo
       ·rw[if_pos h] at hz
        have hz:=ag.mp hz
        rw[W9] at hz
        exact⟨some z,aQ _ (aC.mpr (.inl (by rw[if_pos h];exact hz))),iB _⟩
       ·rw[if_neg h] at hz
        by_cases k:hi2 < hi
        ·rw[if_pos k] at hz
         have hz:=ag.mp hz
         rw[W9] at hz
         exact⟨some z,aQ _ (aG _ (ag.mpr (by rw[if_pos (by omega)];exact hz))),iB _⟩
        ·rw[if_neg k] at hz
         cases hz
     ·rcases az.mp hz with hz | hz
      ·have out:∀ n,outside lo hi lo2 hi2=some n→listOf (aj n (get T o))∈(l8 o lo hi o2).map (val K)++(match outside lo hi lo2 hi2 with | some n=>[eD (aj n (i9 o))] | none=>[]).map (val K):=fun n e=>by
        rw[e]
        exact aO _ (ag.mpr (W9 n).symm)
       rcases aC.mp hz with hz | hz
       ·by_cases h:lo < lo2∨hi2 < lo
        ·rw[if_pos h] at hz
         exact⟨_,out lo (by unfold outside;rw[if_pos h]),by rw[← hz];exact iB _⟩
        ·rw[if_neg h] at hz;cases hz
       ·have hz:=ag.mp hz
        by_cases k:lo≤hi2+1∧hi2+1≤hi
        ·rw[if_pos k] at hz
         by_cases h:lo < lo2∨hi2 < lo
         ·exact⟨_,out lo (by unfold outside;rw[if_pos h]),by rw[hz];exact(Le (hT o) k.1).leq⟩
         ·exact⟨_,out (hi2+1) (by unfold outside;rw[if_neg h,if_pos (by omega)]),by rw[hz];exact iB _⟩
        ·rw[if_neg k] at hz;cases hz
      ·obtain⟨h,i,hi',hz⟩:=(mid _).mp hz
       rw[hz]
       have hs:i+(max 1 lo - 1 - i)=max 1 lo - 1:=by omega
       have:=place (pair b W o o2) (get T o) i (max 1 lo - 1 - i)
       rw[hs] at this
       rcases this with q | q
       ·exact⟨_,aQ _ ((inn _).mpr ⟨h,.inl rfl⟩),q⟩
       ·exact⟨_,aQ _ ((inn _).mpr ⟨h,.inr rfl⟩),q⟩
   | _=>exact jJ hK hx
 | record fs=>
   cases y with
   | record fs2=>
     have nd:(fs.map fun f=>f.name).Nodup:=nx
     have hfs:∀ f∈fs,f.of_ < N:=fun f hf=>hx _ (ay.mpr ⟨f,hf,rfl⟩)
     have OP:∀ f∈fs2,f.of_ < N:=fun f hf=>hy _ (ay.mpr ⟨f,hf,rfl⟩)
     show least ((if fs2.any (fun y=>!y.opt && !(fs.any fun x=>x.name == y.name && !x.opt)) then [recordOf (base T fs)] else [])++fs.map fun x=>match fs2.find? fun y=>y.name == x.name with
      | none=>recordOf (fieldsWith T fs x.name (get T x.of_))
      | some y=>recordOf (fieldsWith T fs x.name (pair b W x.of_ y.of_)))=best K (if sZ fs fs2 then jF (.record fs) else fs.map fun f=>oz fs f.name ((f.of_:Int),taken fs2 f.name))
     rw[← Uc]
     cases hl:sZ fs fs2 with
     | true=>
       rw[if_pos rfl,if_pos rfl,← jJ hK hx]
       refine Iv (fun z e=>zg (aQ _ (ag.mpr rfl)) z e) ?_
       refine Lh fun z hz=>?_
       rcases az.mp hz with hz | hz
       ·rw[ag.mp hz]
        exact iB _
       ·obtain⟨f,hf,rfl⟩:=ay.mp hz
        split
        ·exact(Ct nd hf (Rel.refl _) (hT _)).leq
        ·rename_i g hg
         exact(Ct nd hf (hW _ _ (hfs f hf) (OP g (eW hg))) (hWf _)).leq
     | false=>
       rw[if_neg (by simp),if_neg (by simp),dm]
       unfold best
       rw[bt]
       congr 1
       refine bF fun f hf=>?_
       show _=val K (oz fs f.name ((f.of_:Int),taken fs2 f.name))
       rw[← Pc hK hfs,KW hK hP OP (hfs f hf)]
       cases fs2.find? fun y=>y.name == f.name<;>rfl
   | _=>exact jJ hK hx
 | choice fs=>
   cases y with
   | choice fs2=>
     have hfs:∀ f∈fs,f.of_ < N:=fun f hf=>hx _ (ay.mpr ⟨f,hf,rfl⟩)
     have OP:∀ f∈fs2,f.of_ < N:=fun f hf=>hy _ (ay.mpr ⟨f,hf,rfl⟩)
     show least (fs.map fun x=>match fs2.find? fun y=>y.name == x.name with
      | none=>choiceOf x.name (get T x.of_)
      | some y=>choiceOf x.name (pair b W x.of_ y.of_))=least ((fs.map fun f=>iw f.name ((f.of_:Int),taken fs2 f.name)).map (val K))
     rw[bt]
     congr 1
     refine bF fun f hf=>?_
     show _=val K (iw f.name ((f.of_:Int),taken fs2 f.name))
     rw[GY,KW hK hP OP (hfs f hf)]
     cases fs2.find? fun y=>y.name == f.name<;>rfl
   | _=>exact jJ hK hx
end Ways
namespace Ways
open Kp190 KpFix
theorem qy {b:Book}{s:Nat} (h:s < b.length):form b s∈b:=by
 unfold form
 rw[cf,aK h]
 exact List.getElem_mem h
theorem t5 {b:Book} (hc:closed b=true) {s:Nat} (h:s < b.length):∀ n∈refers (form b s),n < b.length:=fun n hn=>by
 unfold closed at hc
 have:=bQ.mp hc _ (qy h)
 exact of_decide_eq_true (bQ.mp this n hn)
theorem Lu {b:Book}{s:Nat} (h:s < b.length):get (leastTable b) s=leastOf (leastTable b) (form b s):=by
 have e:=yT b
 have:get (b.map (leastOf (leastTable b))) s=leastOf (leastTable b) (form b s):=by
  rw[get_map,aK h]
  dsimp only
  unfold form
  rw[cf,aK h]
  rfl
 rwa [e] at this
theorem ID {b:Book}{T W:Table}{s t:Nat} (hs:s < b.length) (ht:t < b.length):pair b (gn b T W) s t=differ b T W (form b s) (form b t):=by
 have hk:s * b.length+t < b.length * b.length:=by
  have:(s+1) * b.length≤b.length * b.length:=Nat.mul_le_mul_right _ hs
  rw[Nat.succ_mul] at this
  omega
 unfold pair gn
 rw[get_map,DT hk]
 dsimp only
 rw[show(s * b.length+t) / b.length=s from by
  rw[Nat.mul_comm,Nat.mul_add_div (by omega),Nat.div_eq_of_lt ht,m7],
  show(s * b.length+t) % b.length=t from by
  rw[Nat.mul_comm,Nat.mul_add_mod,Nat.mod_eq_of_lt ht]]
theorem Sd {b:Book}{w0:Table} (h:∀ i,get w0 i=none) (s t:Nat):pair b w0 s t=none:=h _
theorem OK {b:Book} (hc:closed b=true) (hn:∀ x∈b,Ku x):∀ k s t,s < b.length→t < b.length→Rel (pair b (iter (gn b (leastTable b)) k ((bS (b.length * b.length)).map fun _=>none)) s t) (get (leastTable b) s)
 | 0,s,t,_,_=>by
   show Rel (pair b ((bS (b.length * b.length)).map fun _=>none) s t) _
   rw[Sd (pJ _)]
   exact Rel.none _
 | k+1,s,t,hs,ht=>by
   rw[jm,ID hs ht,Lu hs]
   refine QH (N:=b.length) (fun i=>oe b i) (fun i=>?_) (fun s t hs ht=>OK hc hn k s t hs ht) (t5 hc hs) (t5 hc ht) (hn _ (qy hs))
   cases k with
   | zero=>
     show Fit (get ((bS (b.length * b.length)).map fun _=>none) i)
     rw[pJ]
     exact vA
   | succ k=>
     rw[jm]
     unfold gn
     rw[get_map]
     cases (bS (b.length * b.length))[i]? with
     | none=>exact vA
     | some j=>exact IT _ _ _ _ _
theorem TK {b:Book} (hc:closed b=true) (hn:∀ x∈b,Ku x) {s t:Nat} (hs:s < b.length) (ht:t < b.length):Rel (pair b (differTable b) s t) (get (leastTable b) s):=by
 have:=OK hc hn (b.length * b.length) s t hs ht
 rwa [BJ b (aB _)] at this
def KS (b:Book):a3→Best:=fun w=>if w.2=-1 then get (leastTable b) w.1.toNat else pair b (differTable b) w.1.toNat w.2.toNat
def inB (b:Book) (w:a3):Prop:=(0≤w.1∧w.1.toNat < b.length)∧(w.2=-1∨(0≤w.2∧w.2.toNat < b.length))
theorem QT (b:Book) (n:Nat):KS b (i9 n)=get (leastTable b) n:=by
 unfold KS i9
 rw[if_pos rfl,cc]
theorem RN (b:Book) (s t:Nat):KS b ((s:Int),(t:Int))=pair b (differTable b) s t:=by
 unfold KS
 rw[if_neg (show ¬ (t:Int)=-1 by omega)]
 show pair b (differTable b) (s:Int).toNat (t:Int).toNat=_
 rw[cc,cc]
theorem Nm {b:Book} (hc:closed b=true) (hn:∀ x∈b,Ku x) {w:a3} (hw:inB b w):KS b w=best (KS b) (eB b w):=by
 obtain⟨⟨h0,h1⟩,h2⟩:=hw
 unfold eB
 by_cases h:w.2=-1
 ·rw[if_pos h]
  conv=>lhs;unfold KS
  rw[if_pos h,Lu h1]
  exact jJ (N:=b.length) (fun n _=>QT b n) (t5 hc h1)
 ·rw[if_neg h]
  have h2:w.2.toNat < b.length:=(h2.resolve_left h).2
  conv=>lhs;unfold KS
  rw[if_neg h]
  have e:pair b (differTable b) w.1.toNat w.2.toNat=differ b (leastTable b) (differTable b) (form b w.1.toNat) (form b w.2.toNat):=by
   conv=>lhs;rw[← rh b]
   exact ID h1 h2
  rw[e]
  exact O6 (N:=b.length) (fun n _=>QT b n) (fun s t _ _=>RN b s t) (fun i=>oe b i) (fun i=>rg b i) (fun s t hs ht=>TK hc hn hs ht) (t5 hc h1) (t5 hc h2) (hn _ (qy h1))
theorem wO {b:Book}{n:Nat} (h:n < b.length):inB b (i9 n):=⟨⟨by show(0:Int)≤n;omega,by show(n:Int).toNat < _;rwa [cc]⟩,.inl rfl⟩
theorem Dc {b:Book}{s t:Nat} (h:s < b.length) (k:t < b.length):inB b ((s:Int),(t:Int)):=⟨⟨by show(0:Int)≤s;omega,by show(s:Int).toNat < _;rwa [cc]⟩,.inr ⟨by show(0:Int)≤t;omega,by show(t:Int).toNat < _;rwa [cc]⟩⟩
def okW (b:Book) (y:Way):Prop:=(1≤y.own∧y.head.length+1≤3 * y.own)∧∀ s∈y.steps,inB b s.2∧s.1.length≤1
theorem GK {b:Book}{ws:List a3} (h:∀ w∈ws,inB b w):okW b (eD ws):=⟨⟨aB _,aB _⟩,fun s hs=>by
 obtain⟨w,hw,rfl⟩:=ay.mp hs
 exact⟨h w hw,aT _⟩⟩
theorem Lb {b:Book}{ws:List (Nat×a3)} (h:∀ w∈ws,inB b w.2):okW b (kg ws):=⟨⟨aB _,aB _⟩,fun s hs=>by
 obtain⟨w,hw,rfl⟩:=ay.mp hs
 exact⟨h w hw,aB _⟩⟩
theorem Lc {b:Book}{n:Nat}{w:a3} (h:inB b w):okW b (iw n w):=⟨⟨aB _,aB _⟩,fun s hs=>by
 obtain rfl:=ag.mp hs
 exact⟨h,aT _⟩⟩
theorem Bs {b:Book}{x:Form} (hx:∀ n∈refers x,n < b.length):∀ y∈jF x,okW b y:=by
 intro y hy
 cases x with
 | num lo hi=>obtain rfl:=ag.mp hy;exact⟨⟨aB _,aB _⟩,fun s hs=>by cases hs⟩
 | text m=>obtain rfl:=ag.mp hy;exact⟨⟨aB _,aB _⟩,fun s hs=>by cases hs⟩
 | list o lo hi=>
   obtain rfl:=ag.mp hy
   exact GK fun w hw=>by rw[(oR.mp hw).2];exact wO (hx o (by simp[refers]))
 | record fs=>
   obtain rfl:=ag.mp hy
   refine Lb fun w hw=>?_
   obtain⟨f,hf,rfl⟩:=ay.mp hw
   exact wO (hx _ (ay.mpr ⟨f,(eL.mp hf).1,rfl⟩))
 | choice fs=>
   obtain⟨f,hf,rfl⟩:=ay.mp hy
   exact Lc (wO (hx _ (ay.mpr ⟨f,hf,rfl⟩)))
theorem Ln {b:Book}{s:Nat} (h:s < b.length) {fs2:List Field} (h2:∀ f∈fs2,f.of_ < b.length) (n:Nat):inB b ((s:Int),taken fs2 n):=by
 unfold taken
 cases e:fs2.find? fun y=>y.name == n with
 | none=>exact wO h
 | some y=>exact Dc h (h2 y (eW e))
theorem XC {b:Book}{x z:Form} (hx:∀ n∈refers x,n < b.length) (hz:∀ n∈refers z,n < b.length):∀ y∈mX x z,okW b y:=by
 intro y hy
 cases x with
 | num lo hi=>
   cases z with
   | num lo2 hi2=>
     have hy:y∈(match outside lo hi lo2 hi2 with | some v=>[yP v] | none=>[]):=hy
     split at hy
     ·obtain rfl:=ag.mp hy;exact⟨⟨aB _,aB _⟩,fun s hs=>by cases hs⟩
     ·cases hy
   | _=>exact Bs hx y hy
 | text m=>
   cases z with
   | text m2=>
     have hy:y∈(match outside 0 m 0 m2 with | some v=>[lF v] | none=>[]):=hy
     split at hy
     ·obtain rfl:=ag.mp hy;exact⟨⟨Nat.le_add_right _ _,by unfold lF;dsimp only;rw[au,aX];show 2+_+1≤_;omega⟩,fun s hs=>by cases hs⟩
     ·cases hy
   | _=>exact Bs hx y hy
 | list o lo hi=>
   cases z with
   | list o2 lo2 hi2=>
     have ho:=hx o (by simp[refers])
     have ho2:=hz o2 (by simp[refers])
     have hr:∀ n,∀ w∈aj n (i9 o),inB b w:=fun n w hw=>by rw[(oR.mp hw).2];exact wO ho
     rcases az.mp (show y∈l8 o lo hi o2++(match outside lo hi lo2 hi2 with | some n=>[eD (aj n (i9 o))] | none=>[]) from hy) with hy | hy
     ·unfold l8 at hy
      split at hy
      ·cases hy
      ·rcases aC.mp hy with rfl | hy
       ·refine GK fun w hw=>?_
        rcases az.mp hw with hw | hw
        ·rw[ag.mp hw];exact Dc ho ho2
        ·exact hr _ w hw
       ·obtain rfl:=ag.mp hy
        refine GK fun w hw=>?_
        rcases az.mp hw with hw | hw
        ·exact hr _ w hw
        ·rw[ag.mp hw];exact Dc ho ho2
     ·split at hy
      ·obtain rfl:=ag.mp hy
       exact GK (hr _)
      ·cases hy
   | _=>exact Bs hx y hy
 | record fs=>
   cases z with
   | record fs2=>
     have hfs:∀ f∈fs,f.of_ < b.length:=fun f hf=>hx _ (ay.mpr ⟨f,hf,rfl⟩)
     have OP:∀ f∈fs2,f.of_ < b.length:=fun f hf=>hz _ (ay.mpr ⟨f,hf,rfl⟩)
     have hy:y∈(if sZ fs fs2 then jF (.record fs) else fs.map fun f=>oz fs f.name ((f.of_:Int),taken fs2 f.name)):=hy
     split at hy
     ·exact Bs hx y hy
     ·obtain⟨f,hf,rfl⟩:=ay.mp hy
      refine Lb fun w hw=>?_
      obtain⟨g,hg,e⟩:=oS.mp hw
      split at e
      ·obtain rfl:=aa e
       exact Ln (hfs f hf) OP _
      ·split at e
       ·cases e
       ·obtain rfl:=aa e
        exact wO (hfs g hg)
   | _=>exact Bs hx y hy
 | choice fs=>
   cases z with
   | choice fs2=>
     have hfs:∀ f∈fs,f.of_ < b.length:=fun f hf=>hx _ (ay.mpr ⟨f,hf,rfl⟩)
     have OP:∀ f∈fs2,f.of_ < b.length:=fun f hf=>hz _ (ay.mpr ⟨f,hf,rfl⟩)
     obtain⟨f,hf,rfl⟩:=ay.mp (show y∈fs.map fun f=>iw f.name ((f.of_:Int),taken fs2 f.name) from hy)
     exact Lc (Ln (hfs f hf) OP _)
   | _=>exact Bs hx y hy
theorem HS {b:Book} (hc:closed b=true) {w:a3} (hw:inB b w):∀ y∈eB b w,okW b y:=by
 obtain⟨⟨h0,h1⟩,h2⟩:=hw
 intro y hy
 unfold eB at hy
 by_cases h:w.2=-1
 ·rw[if_pos h] at hy
  exact Bs (t5 hc h1) y hy
 ·rw[if_neg h] at hy
  exact XC (t5 hc h1) (t5 hc (h2.resolve_left h).2) y hy
theorem YD {b:Book} (hc:closed b=true):Sys (inB b) (eB b):=⟨fun w hw y hy=>(HS hc hw y hy).1.1,fun w hw y hy s hs=>((HS hc hw y hy).2 s hs).1⟩
def Few:Form→Prop
 | .list _ lo hi=>lo≤hi∧hi≤32
 | .record fs=>fs.length≤8
 | .choice fs=>fs.length≤8
 | _=>True
theorem wV {x:Form} (h:Few x):(jF x).length≤8∧∀ y∈jF x,y.steps.length≤33:=by
 cases x with
 | num lo hi=>exact⟨by show 1≤8;decide,fun y hy=>by obtain rfl:=ag.mp hy;exact aT _⟩
 | text m=>exact⟨by show 1≤8;decide,fun y hy=>by obtain rfl:=ag.mp hy;exact aT _⟩
 | list o lo hi=>
   have h:lo≤hi∧hi≤32:=h
   refine⟨by show 1≤8;decide,fun y hy=>?_⟩
   obtain rfl:=ag.mp hy
   show(xY _ (aj lo _)).length≤33
   rw[ae,aX]
   omega
 | record fs=>
   have h:fs.length≤8:=h
   refine⟨by show 1≤8;decide,fun y hy=>?_⟩
   obtain rfl:=ag.mp hy
   show(xY _ (xY _ (rb fs))).length≤33
   rw[ae,ae]
   have:(rb fs).length≤fs.length:=qM _ _
   omega
 | choice fs=>
   have h:fs.length≤8:=h
   refine⟨by show(fs.map _).length≤8;rw[ae];exact h,fun y hy=>?_⟩
   obtain⟨f,_,rfl⟩:=ay.mp hy
   show 1≤33
   decide
theorem Xz {lo hi lo2 hi2 n:Nat} (e:outside lo hi lo2 hi2=some n):n=lo∨n≤hi:=by
 unfold outside at e
 split at e
 ·exact .inl (aa e).symm
 ·split at e
  ·have:=aa e
   omega
  ·cases e
theorem Wh {x z:Form} (h:Few x):(mX x z).length≤8∧∀ y∈mX x z,y.steps.length≤33:=by
 cases x with
 | num lo hi=>
   cases z with
   | num lo2 hi2=>
     show(match outside lo hi lo2 hi2 with | some v=>[yP v] | none=>[]).length≤8∧∀ y∈(match outside lo hi lo2 hi2 with | some v=>[yP v] | none=>[]),_
     cases outside lo hi lo2 hi2 with
     | none=>exact⟨by decide,fun y hy=>by cases hy⟩
     | some n=>exact⟨by show 1≤8;decide,fun y hy=>by obtain rfl:=ag.mp hy;exact aT _⟩
   | _=>exact wV h
 | text m=>
   cases z with
   | text m2=>
     show(match outside 0 m 0 m2 with | some v=>[lF v] | none=>[]).length≤8∧∀ y∈(match outside 0 m 0 m2 with | some v=>[lF v] | none=>[]),_
     cases outside 0 m 0 m2 with
     | none=>exact⟨by decide,fun y hy=>by cases hy⟩
     | some n=>exact⟨by show 1≤8;decide,fun y hy=>by obtain rfl:=ag.mp hy;exact aT _⟩
   | _=>exact wV h
 | list o lo hi=>
   cases z with
   | list o2 lo2 hi2=>
     have h:lo≤hi∧hi≤32:=h
     have h1:(l8 o lo hi o2).length≤2∧∀ y∈l8 o lo hi o2,y.steps.length≤33:=by
      unfold l8
      split
      ·exact⟨aT _,fun y hy=>by cases hy⟩
      ·refine⟨aB _,fun y hy=>?_⟩
       rcases aC.mp hy with rfl | hy
       ·show(xY _ _).length≤33
        rw[ae,au,aX]
        show 1+_≤33
        omega
       ·obtain rfl:=ag.mp hy
        show(xY _ _).length≤33
        rw[ae,au,aX]
        show _+1≤33
        omega
     have h2:∀ r:Option Nat,outside lo hi lo2 hi2=r→(match r with | some n=>[eD (aj n (i9 o))] | none=>[]:List Way).length≤1∧∀ y∈(match r with | some n=>[eD (aj n (i9 o))] | none=>[]:List Way),y.steps.length≤33:=fun r e=>by
      cases r with
      | none=>exact⟨aT _,fun y hy=>by cases hy⟩
      | some n=>
        refine⟨aB _,fun y hy=>?_⟩
        obtain rfl:=ag.mp hy
        show(xY _ _).length≤33
        rw[ae,aX]
        have:=Xz e
        omega
     have h3:=h2 _ rfl
     show(l8 o lo hi o2++(match outside lo hi lo2 hi2 with | some n=>[eD (aj n (i9 o))] | none=>[])).length≤8∧∀ y∈l8 o lo hi o2++(match outside lo hi lo2 hi2 with | some n=>[eD (aj n (i9 o))] | none=>[]),_
     refine⟨by rw[au];omega,fun y hy=>?_⟩
     rcases az.mp hy with hy | hy
     ·exact h1.2 y hy
     ·exact h3.2 y hy
   | _=>exact wV h
 | record fs=>
   cases z with
   | record fs2=>
     have h':fs.length≤8:=h
     show(if sZ fs fs2 then jF (.record fs) else fs.map fun f=>oz fs f.name ((f.of_:Int),taken fs2 f.name)).length≤8∧∀ y∈(if sZ fs fs2 then jF (.record fs) else fs.map fun f=>oz fs f.name ((f.of_:Int),taken fs2 f.name)),_
     split
     ·exact wV h
     ·refine⟨by rw[ae];exact h',fun y hy=>?_⟩
      obtain⟨f,_,rfl⟩:=ay.mp hy
      show(xY _ (List.filterMap _ fs)).length≤33
      rw[ae]
      exact bP (List.length_filterMap_le _ _) (by omega)
   | _=>exact wV h
 | choice fs=>
   cases z with
   | choice fs2=>
     have h':fs.length≤8:=h
     refine⟨by show(fs.map _).length≤8;rw[ae];exact h',fun y hy=>?_⟩
     obtain⟨f,_,rfl⟩:=ay.mp (show y∈fs.map fun f=>iw f.name ((f.of_:Int),taken fs2 f.name) from hy)
     show 1≤33
     decide
   | _=>exact wV h
theorem Yo {b:Book} (hf:∀ x∈b,Few x) {w:a3} (hw:inB b w):(eB b w).length≤8∧∀ y∈eB b w,y.steps.length≤33:=by
 obtain⟨⟨_,h1⟩,_⟩:=hw
 unfold eB
 split
 ·exact wV (hf _ (qy h1))
 ·exact Wh (hf _ (qy h1))
end Ways
namespace L2
open PySem PySem.Spec PyProof.Rows
def Ext (M:List Addr) (H H':Hp):Prop:=∀ b o,H b=some o→b∉M→H' b=some o
theorem Ext.refl (M:List Addr) (H:Hp):Ext M H H:=fun _ _ e _=>e
theorem Ext.trans {M:List Addr}{H H1 H2:Hp} (a:Ext M H H1) (b:Ext M H1 H2):Ext M H H2:=fun c o e m=>b c o (a c o e m) m
theorem Ext.mono {M N:List Addr}{H H1:Hp} (a:Ext M H H1) (s:∀ x∈M,x∈N):Ext N H H1:=fun c o e m=>a c o e fun z=>m (s c z)
theorem Ext.of_same {M:List Addr}{H H':Hp} (s:bg H H'):Ext M H H':=fun b o e _=>s b o e
theorem Ext.put {M:List Addr}{H:Hp}{a:Addr}{o:HO} (h:a∈M):Ext M H (upd H a o):=fun b u e m=>by
 rw[aN (show b≠a from fun z=>m (by rw[z];exact h))]
 exact e
theorem bg.new {H:Hp}{a:Addr}{o:HO} (h:H a=none):bg H (upd H a o):=fun b u e=>by
 rw[aN (bf e h)]
 exact e
theorem Ext.new {M:List Addr}{H:Hp}{a:Addr}{o:HO} (h:H a=none):Ext M H (upd H a o):=Ext.of_same (bg.new h)
theorem LU {σ:St}{H:Hp}{A B:Hp→Prop} (h:A H):Tb σ H (fun b H3=>if b=true then A H3 else B H3):=by
 show if true=true then A H else B H
 rw[if_pos rfl]
 exact h
theorem Tj {n c m:Nat} (hc:0 < c) (hc2:c < 1000) (hn:n≤1000000) (hm:m=(n+c - 1) / c):RgC 0 (n:Int) (c:Int) m:=by
 have e:Builtin.Range.rangeSize 0 (n:Int) (c:Int)=m:=by
  unfold Builtin.Range.rangeSize
  rw[if_pos (by omega)]
  split
  ·rename_i h
   have h0:0 < n:=by omega
   have e1:((n:Int) - 0 - 1)=((n - 1:Nat):Int):=by omega
   rw[e1,← Int.natCast_ediv,hm]
   have:(n+c - 1) / c=(n - 1) / c+1:=by
    rw[show n+c - 1=(n - 1)+c by omega,Nat.add_div_right _ hc]
   rw[this]
   omega
  ·have h0:n=0:=by omega
   subst h0
   rw[hm,Nat.div_eq_of_lt (by omega)]
   rfl
 refine⟨by omega,by omega,?_,e⟩
 unfold Builtin.Range.small
 rw[e]
 have hm2:m≤n:=by
  rw[hm]
  rcases FD n with h | h
  ·subst h
   rw[Nat.div_eq_of_lt (by omega)]
   exact aB _
  ·rw[show n+c - 1=(n - 1)+c by omega,Nat.add_div_right _ hc]
   have:=Nat.div_le_self (n - 1) c
   omega
 have hp:(c:Int) > 0:=by omega
 simp only[Builtin.Range.rangeFitsLong,a5,Bool.or_eq_true,decide_eq_true_eq,beq_iff_eq,hp,if_true]
 omega
theorem Zk {J:It}{n:Nat}{g:TG}{tt:TT}{te:TE}{vs:List Nat}{σ:St}{H:Hp}{D:Addr}{Q:VK} (Pv:Nat→Hp→Prop) (h0:Pv 0 (upd H D (.lst [])))
 (go:∀ i H,i < n→Pv i H→J.go i H∧∀ x H',J.yld i H x H'→g x (wipe σ vs) H' fun σ2 H2=>wipe σ2 vs=wipe σ vs∧tt σ2 H2 fun b H3=>
   if b=true then te σ2 H3 fun y H4=>∃ acc,H4 D=some (.lst acc)∧acc.length < sizeLine∧Pv (i+1) (upd H4 D (.lst (acc++[y]))) else Pv (i+1) H3)
 (stop:∀ H,Pv n H→J.stop n H∧Q (.ref D) H):
 ∃ W:Nat→Nat→Hp→Prop,(∃ m,W 0 m (upd H D (.lst [])))∧∀ i m H,W i m H→
   (J.stop i H∧Q (.ref D) H)∨(J.go i H∧∃ Nx:Hp→Prop,(∀ H',Nx H'→∃ m',m' < m∧W (i+1) m' H')∧∀ x H',J.yld i H x H'→g x (wipe σ vs) H' fun σ2 H2=>wipe σ2 vs=wipe σ vs∧tt σ2 H2 fun b H3=>
     if b=true then te σ2 H3 fun y H4=>∃ acc,H4 D=some (.lst acc)∧acc.length < sizeLine∧Nx (upd H4 D (.lst (acc++[y]))) else Nx H3):=by
 refine⟨fun i m H=>m=n - i∧i≤n∧Pv i H,⟨n,by simp,aT _,h0⟩,?_⟩
 rintro i m H ⟨rfl,hi,p⟩
 by_cases hlt:i < n
 ·obtain⟨h1,h2⟩:=go i H hlt p
  exact .inr ⟨h1,Pv (i+1),fun H' p'=>⟨n - (i+1),by omega,rfl,hlt,p'⟩,h2⟩
 ·have e:i=n:=by omega
  subst e
  exact .inl (stop H p)
theorem WM {wi:TI}{g:TG}{tt:TT}{te:TE}{vs:List Nat}{σ:St}{H:Hp}{Q:VK} (J:It) (n:Nat) (Pv:Addr→Nat→Hp→Prop) (hw:∀ R:It→Hp→Prop,R J H→wi σ H R)
 (h0:∀ D,H D=none→Pv D 0 (upd H D (.lst [])))
 (go:∀ D i H',H D=none→i < n→Pv D i H'→J.go i H'∧∀ x H2,J.yld i H' x H2→g x (wipe σ vs) H2 fun σ2 H2=>wipe σ2 vs=wipe σ vs∧tt σ2 H2 fun b H3=>
   if b=true then te σ2 H3 fun y H4=>∃ acc,H4 D=some (.lst acc)∧acc.length < sizeLine∧Pv D (i+1) (upd H4 D (.lst (acc++[y]))) else Pv D (i+1) H3)
 (stop:∀ D H',H D=none→Pv D n H'→J.stop n H'∧Q (.ref D) H'):tLc wi g tt te vs σ H Q:=
 hw _ fun D hD=>Zk (J:=J) (n:=n) (g:=g) (tt:=tt) (te:=te) (vs:=vs) (σ:=σ) (H:=H) (D:=D) (Q:=Q) (Pv D) (h0 D hD) (fun i H' hi p=>go D i H' hD hi p) (fun H' p=>stop D H' hD p)
def Imm:HO→Prop
 | .tup _=>True
 | .frz _ _=>True
 | _=>False
def la (H H':Hp):Prop:=∀ a o,H a=some o→Imm o→H' a=some o
theorem la.trans {H H1 H2:Hp} (a:la H H1) (b:la H1 H2):la H H2:=fun c o h i=>b c o (a c o h i) i
theorem la.of_same {H H':Hp} (s:bg H H'):la H H':=fun a o h _=>s a o h
theorem la.sV {M:List Addr}{H H':Hp} (e:Ext M H H') (n:∀ m∈M,∀ o,H m=some o→¬ Imm o):la H H':=fun a o h i=>e a o h fun m=>n a m o h i
theorem la.put {H:Hp}{a:Addr}{o u:HO} (h:H a=some u) (n:¬ Imm u):la H (upd H a o):=fun b v e i=>by
 rw[aN (fun z=>by subst z;rw[h] at e;exact n (aa e▸i))]
 exact e
def y9 (K:ai) (H:Hp) (a:Addr) (xs:List V):Prop:=(∃ o,H a=some (.frz o (.lst xs)))∨((∀ H',SqL K H' a xs))
theorem y9.sq {K:ai}{H:Hp}{a:Addr}{xs:List V} (h:y9 K H a xs):SqL K H a xs:=by
 rcases h with ⟨o,h⟩ | h
 ·exact .inl (.inr ⟨o,h⟩)
 ·exact h H
theorem y9.keep {K:ai}{H H':Hp}{a:Addr}{xs:List V} (h:y9 K H a xs) (k:la H H'):y9 K H' a xs:=by
 rcases h with ⟨o,h⟩ | h
 ·exact .inl ⟨o,k _ _ h trivial⟩
 ·exact .inr h
end L2
namespace L2
open PySem PySem.Spec PyProof.Rows
inductive D where
 | i (n:Int)
 | non
 | t (l:List D)
 | l (l:List D)
mutual
inductive Dv (S:Addr→Prop) (H:Hp):V→D→Prop
 | int (n:Int):Dv S H (.int n) (.i n)
 | non:Dv S H .non .non
 | tup {a:Addr}{xs:List V}{ds:List D}:H a=some (.tup xs)→bh S H xs ds→Dv S H (.ref a) (.t ds)
 | lst {a:Addr}{xs:List V}{ds:List D}:S a→H a=some (.lst xs)→bh S H xs ds→Dv S H (.ref a) (.l ds)
inductive bh (S:Addr→Prop) (H:Hp):List V→List D→Prop
 | nil:bh S H [] []
 | cons {v:V}{vs:List V}{d:D}{ds:List D}:Dv S H v d→bh S H vs ds→bh S H (v::vs) (d::ds)
end
def Kp (S:Addr→Prop) (H H':Hp):Prop:=∀ a o,H a=some o→(S a∨∃ xs,o=.tup xs)→H' a=some o
theorem Kp.trans {S:Addr→Prop}{H H1 H2:Hp} (a:Kp S H H1) (b:Kp S H1 H2):Kp S H H2:=fun c o h i=>b c o (a c o h i) i
theorem Kp.of_same {S:Addr→Prop}{H H':Hp} (s:bg H H'):Kp S H H':=fun a o h _=>s a o h
theorem Kp.put {S:Addr→Prop}{H:Hp}{p:Addr}{o u:HO} (h:H p=some u) (n:∀ xs,u≠.tup xs) (ns:¬ S p):Kp S H (upd H p o):=fun b v e i=>by
 rw[aN (fun z=>by
  subst z
  rcases i with i | ⟨xs,i⟩
  ·exact ns i
  ·rw[h] at e;exact n xs ((aa e).trans i))]
 exact e
theorem Kp.new {S:Addr→Prop}{H:Hp}{p:Addr}{o:HO} (h:H p=none):Kp S H (upd H p o):=Kp.of_same (bg.new h)
theorem Kp.sV {S:Addr→Prop}{M:List Addr}{H H':Hp} (e:Ext M H H') (n:∀ m∈M,¬ S m∧∀ xs,H m≠some (.tup xs)):Kp S H H':=fun a o h i=>e a o h fun m=>by
 rcases i with i | ⟨xs,i⟩
 ·exact(n a m).1 i
 ·exact(n a m).2 xs (by rw[h,i])
mutual
theorem Dv.mono {S S':Addr→Prop}{H H':Hp} (k:∀ a o,H a=some o→(S a∨∃ xs,o=.tup xs)→H' a=some o) (s:∀ a o,H a=some o→S a→S' a):∀ (d:D) (v:V),Dv S H v d→Dv S' H' v d
 | .i _,_,.int n=>.int n
 | .non,_,.non=>.non
 | .t ds,_,.tup h a=>.tup (k _ _ h (.inr ⟨_,rfl⟩)) (bh.mono k s ds _ a)
 | .l ds,_,.lst i h a=>.lst (s _ _ h i) (k _ _ h (.inl i)) (bh.mono k s ds _ a)
theorem bh.mono {S S':Addr→Prop}{H H':Hp} (k:∀ a o,H a=some o→(S a∨∃ xs,o=.tup xs)→H' a=some o) (s:∀ a o,H a=some o→S a→S' a):∀ (ds:List D) (vs:List V),bh S H vs ds→bh S' H' vs ds
 | [],_,.nil=>.nil
 | d::ds,_,.cons h a=>.cons (Dv.mono k s d _ h) (bh.mono k s ds _ a)
end
theorem Dv.keep {S:Addr→Prop}{H H':Hp}{v:V}{d:D} (h:Dv S H v d) (k:Kp S H H'):Dv S H' v d:=Dv.mono k (fun _ _ _ x=>x) d v h
theorem bh.keep {S:Addr→Prop}{H H':Hp}{v:List V}{d:List D} (h:bh S H v d) (k:Kp S H H'):bh S H' v d:=bh.mono k (fun _ _ _ x=>x) d v h
theorem Dv.sub {S S':Addr→Prop}{H:Hp}{v:V}{d:D} (h:Dv S H v d) (s:∀ a,S a→S' a):Dv S' H v d:=Dv.mono (fun _ _ e _=>e) (fun a _ _=>s a) d v h
theorem bh.sub {S S':Addr→Prop}{H:Hp}{v:List V}{d:List D} (h:bh S H v d) (s:∀ a,S a→S' a):bh S' H v d:=bh.mono (fun _ _ e _=>e) (fun a _ _=>s a) d v h
theorem Dv.at {S S':Addr→Prop}{H:Hp}{v:V}{d:D} (h:Dv S H v d) (s:∀ a o,H a=some o→S a→S' a):Dv S' H v d:=Dv.mono (fun _ _ e _=>e) s d v h
theorem bh.len {S:Addr→Prop}{H:Hp}:∀ {vs:List V}{ds:List D},bh S H vs ds→vs.length=ds.length
 | _,_,.nil=>rfl
 | _,_,.cons _ a=>congrArg (·+1) a.len
theorem bh.get {S:Addr→Prop}{H:Hp}:∀ {vs:List V}{ds:List D},bh S H vs ds→∀ {i:Nat}{v:V},vs[i]?=some v→∃ d,ds[i]?=some d∧Dv S H v d
 | _,_,.nil,i,v,e=>by simp at e
 | _,_,.cons h a,0,v,e=>⟨_,rfl,aa e▸h⟩
 | _,_,.cons h a,i+1,v,e=>a.get e
theorem bh.get' {S:Addr→Prop}{H:Hp}:∀ {vs:List V}{ds:List D},bh S H vs ds→∀ {i:Nat}{d:D},ds[i]?=some d→∃ v,vs[i]?=some v∧Dv S H v d
 | _,_,.nil,i,v,e=>by simp at e
 | _,_,.cons h a,0,v,e=>⟨_,rfl,aa e▸h⟩
 | _,_,.cons h a,i+1,v,e=>a.get' e
theorem bh.append {S:Addr→Prop}{H:Hp}:∀ {vs us:List V}{ds es:List D},bh S H vs ds→bh S H us es→bh S H (vs++us) (ds++es)
 | _,_,_,_,.nil,b=>b
 | _,_,_,_,.cons h a,b=>.cons h (a.append b)
theorem bh.ints {S:Addr→Prop}{H:Hp}:∀ ns:List Int,bh S H (ns.map V.int) (ns.map D.i)
 | []=>.nil
 | n::ns=>.cons (.int n) (bh.ints ns)
theorem bh.Mz {S:Addr→Prop}{H:Hp}:∀ (ns:List Int) {vs:List V},bh S H vs (ns.map D.i)→vs=ns.map V.int
 | [],_,.nil=>rfl
 | n::ns,_,.cons (.int _) a=>congrArg (V.int n::·) (bh.Mz ns a)
theorem bh.take {S:Addr→Prop}{H:Hp}:∀ {vs:List V}{ds:List D} (n:Nat),bh S H vs ds→bh S H (vs.take n) (ds.take n)
 | _,_,0,_=>.nil
 | _,_,_+1,.nil=>.nil
 | _,_,n+1,.cons h a=>.cons h (a.take n)
theorem bh.drop {S:Addr→Prop}{H:Hp}:∀ {vs:List V}{ds:List D} (n:Nat),bh S H vs ds→bh S H (vs.drop n) (ds.drop n)
 | _,_,0,h=>h
 | _,_,_+1,.nil=>.nil
 | _,_,n+1,.cons _ a=>a.drop n
theorem bh.rep {S:Addr→Prop}{H:Hp}{v:V}{d:D} (h:Dv S H v d):∀ n,bh S H (aj n v) (aj n d)
 | 0=>.nil
 | n+1=>.cons h (bh.rep h n)
theorem Dv.tupI {S:Addr→Prop}{H:Hp}{v:V}{ds:List D} (h:Dv S H v (.t ds)):∃ a xs,v=.ref a∧H a=some (.tup xs)∧bh S H xs ds:=by
 cases h with
 | tup h a=>exact⟨_,_,rfl,h,a⟩
theorem Dv.wM {S:Addr→Prop}{H:Hp}{v:V}{ds:List D} (h:Dv S H v (.l ds)):∃ a xs,v=.ref a∧S a∧H a=some (.lst xs)∧bh S H xs ds:=by
 cases h with
 | lst i h a=>exact⟨_,_,rfl,i,h,a⟩
theorem Dv.z5 {S:Addr→Prop}{H:Hp}{v:V}{n:Int} (h:Dv S H v (.i n)):v=.int n:=by
 cases h
 rfl
theorem Dv.VT {S:Addr→Prop}{H:Hp}{v:V} (h:Dv S H v .non):v=.non:=by
 cases h
 rfl
theorem bh.fB {S:Addr→Prop}{H:Hp}{vs:List V}{d:D}{ds:List D} (h:bh S H vs (d::ds)):∃ v us,vs=v::us∧Dv S H v d∧bh S H us ds:=by
 cases h with
 | cons h a=>exact⟨_,_,rfl,h,a⟩
theorem bh.xK {S:Addr→Prop}{H:Hp}{vs:List V} (h:bh S H vs []):vs=[]:=by
 cases h
 rfl
def nw (S:Addr→Prop) (H:Hp):Addr→Prop:=fun a=>S a∨H a=none
theorem H0 {S:Addr→Prop}{H:Hp}:∀ a,S a→nw S H a:=fun _ h=>.inl h
theorem CM {S:Addr→Prop}{H H1:Hp} (s:∀ a,H1 a=none→H a=none):∀ a,nw (nw S H) H1 a→nw S H a:=fun a h=>h.elim id fun e=>.inr (s a e)
theorem CN {S:Addr→Prop}{H H1:Hp} (s:∀ a,H1 a=none→H a=none):∀ a,nw S H1 a→nw S H a:=fun a h=>h.imp id (s a)
theorem Ext.none {M:List Addr}{H H':Hp} (e:Ext M H H') (m:∀ a∈M,H' a≠none):∀ a,H' a=none→H a=none:=fun a h=>by
 cases q:H a with
 | none=>rfl
 | some o=>
   by_cases hm:a∈M
   ·exact absurd h (m a hm)
   ·rw[e a o q hm] at h
    cases h
theorem XD {S:Addr→Prop}{H:Hp}{a:Addr}{o:HO} (h:H a=some o) (n:¬ S a):¬ nw S H a:=fun z=>z.elim n fun e=>by rw[h] at e;cases e
theorem bg.non {H H':Hp} (s:bg H H'):∀ a,H' a=uR→H a=uR:=fun a h=>s.free h
theorem dz {H:Hp}{p:Addr}{o:HO}:∀ a,upd H p o a=none→H a=none:=fun a h=>by
 by_cases e:a=p
 ·subst e
  rw[aE] at h
  cases h
 ·rw[aN e] at h
  exact h
def New (S:Addr→Prop) (H:Hp) (d:D) (Q:VK):Prop:=∀ v H',bg H H'→Dv (nw S H) H' v d→Q v H'
theorem New.after {S:Addr→Prop}{H H1:Hp}{d:D}{Q:VK} (k:New S H d Q) (s:bg H H1):New (nw S H) H1 d Q:=fun v H' s' h=>k v H' (s.trans s') (h.sub (CM s.non))
end L2
namespace L2
open PySem PySem.Spec PyProof.Rows
def on (S:Addr→Prop) (H:Hp):Addr→Prop:=fun a=>S a∧H a≠none
theorem Dv.on {S:Addr→Prop}{H:Hp}{v:V}{d:D} (h:Dv S H v d):Dv (on S H) H v d:=h.at fun a o e s=>⟨s,by rw[e];exact fun z=>nomatch z⟩
theorem Dv.on' {S:Addr→Prop}{H H1:Hp}{v:V}{d:D} (h:Dv S H v d) (s:bg H H1):Dv (L2.on S H) H1 v d:=h.on.keep (Kp.of_same s)
theorem bh.on {S:Addr→Prop}{H:Hp}{v:List V}{d:List D} (h:bh S H v d):bh (on S H) H v d:=bh.mono (fun _ _ e _=>e) (fun a o e s=>⟨s,by rw[e];exact fun z=>nomatch z⟩) d v h
structure Walks (J:It) (H:Hp) (xs:List V):Prop where
 go:∀ H',bg H H'→∀ i,i < xs.length→J.go i H'
 yld:∀ H',bg H H'→∀ i,i < xs.length→∀ x H2,J.yld i H' x H2→H2=H'∧xs[i]?=some x
 stop:∀ H',bg H H'→J.stop xs.length H'
theorem SqT.same {K:ai}{H H':Hp}{a:Addr}{xs:List V} (s:bg H H') (h:SqT K H a xs):SqT K H' a xs:=by
 rcases h with h | h
 ·rcases h with h | ⟨o,h⟩
  ·exact .inl (.inl (s _ _ h))
  ·exact .inl (.inr ⟨o,s _ _ h⟩)
 ·exact .inr h
theorem Walks.list {K:ai}{H:Hp}{a:Addr}{xs:List V} (h:SqL K H a xs):Walks (Itl K a) H xs where
 go:=fun H' s i hi=>⟨xs,_,s.seq h,aK hi⟩
 yld:=fun H' s i hi x H2 y=>⟨y.1,y.2 _ (s.seq h)⟩
 stop:=fun H' s=>⟨xs,s.seq h,aB _⟩
theorem Walks.tup {K:ai}{H:Hp}{a:Addr}{xs:List V} (h:SqT K H a xs):Walks (Itt K a) H xs where
 go:=fun H' s i hi=>⟨xs,_,SqT.same s h,aK hi⟩
 yld:=fun H' s i hi x H2 y=>⟨y.1,y.2 _ (SqT.same s h)⟩
 stop:=fun H' s=>⟨xs,SqT.same s h,aB _⟩
theorem cV {α:Type}:∀ {l:List α}{i:Nat}{x:α},l[i]?=some x→l.take (i+1)=l.take i++[x]
 | [],i,x,h=>by simp at h
 | a::l,0,x,h=>by
   have e:a=x:=aa h
   subst e
   rfl
 | a::l,i+1,x,h=>by
   have ih:=cV (l:=l) (i:=i) (x:=x) h
   show a::l.take (i+1)=a::l.take i++[x]
   rw[ih]
   rfl
theorem Qu {wi:TI}{g:TG}{tt:TT}{te:TE}{vs:List Nat}{σ:St}{H:Hp}{Q:VK}{S:Addr→Prop}{J:It}{xs:List V}{os:List (Option D)} (k:New S H (.l (os.filterMap id)) Q) (hw:∀ R:It→Hp→Prop,R J H→wi σ H R) (hJ:Walks J H xs)
 (hlen:xs.length=os.length) (hz:xs.length < sizeLine)
 (item:∀ (i:Nat) v o H1,xs[i]?=some v→os[i]?=some o→bg H H1→∀ (Z:VK) (W:Hp→Prop),(∀ d,o=some d→∀ y H4,bg H1 H4→Dv (nw (on S H) H1) H4 y d→Z y H4)→(o=none→∀ H4,bg H1 H4→W H4)→
   g v (wipe σ vs) H1 fun σ2 H2=>wipe σ2 vs=wipe σ vs∧tt σ2 H2 fun b H3=>if b=true then te σ2 H3 Z else W H3):tLc wi g tt te vs σ H Q:=by
 refine WM J xs.length (fun D i H1=>bg H H1∧∃ ys,H1 D=some (.lst ys)∧ys.length≤i∧bh (fun a=>nw S H a∧a≠D) H1 ys ((os.take i).filterMap id)) hw (fun D hD=>⟨bg.new hD,[],aE,aB _,.nil⟩) ?_ ?_
 ·rintro D i H1 hD hi ⟨s1,ys,hy,hyl,ha⟩
  refine⟨hJ.go _ s1 i hi,?_⟩
  intro x H2 hx
  obtain⟨e2,hx'⟩:=hJ.yld _ s1 i hi x H2 hx
  subst e2
  obtain⟨o,ho⟩:∃ o,os[i]?=some o:=⟨_,aK (by omega)⟩
  refine item i x o H2 hx' ho s1 _ _ ?_ ?_
  ·rintro d rfl y H4 s4 hd
   have hy4:=s4 _ _ hy
   refine⟨ys,hy4,kP hyl (kO hi hz),?_⟩
   have kp:Kp (fun a=>nw S H a∧a≠D) H4 (upd H4 D (.lst (ys++[y]))):=Kp.put hy4 (fun _ z=>by cases z) (fun z=>z.2 rfl)
   refine⟨fun b u e=>by rw[aN (bf e hD)];exact s4 _ _ (s1 _ _ e),ys++[y],aE,by rw[au,bD];omega,?_⟩
   rw[cV ho,lr]
   refine(((ha.keep (Kp.of_same s4)).keep kp).append (.cons (?_:Dv _ _ y d) .nil))
   refine(hd.sub fun a h=>?_).keep kp
   rcases h with ⟨h1,h2⟩ | h
   ·exact⟨.inl h1,fun z=>h2 (by rw[z];exact hD)⟩
   ·exact⟨.inr (s1.non a h),fun z=>by rw[z,hy] at h;cases h⟩
  ·rintro rfl H4 s4
   refine⟨s1.trans s4,ys,s4 _ _ hy,by omega,?_⟩
   rw[cV ho,lr]
   show bh _ _ _ (_++[])
   rw[cq]
   exact ha.keep (Kp.of_same s4)
 ·rintro D H1 hD ⟨s1,ys,hy,hyl,ha⟩
  refine⟨hJ.stop _ s1,k _ _ s1 (.lst (.inr hD) hy ?_)⟩
  rw[hlen,cz] at ha
  exact ha.sub fun a h=>h.1
theorem NS {α:Type}:∀ l:List α,(l.map some).filterMap id=l
 | []=>rfl
 | a::l=>by
   rw[aU,cF]
   show a::_=_
   rw[NS l]
theorem uK {wi:TI}{g:TG}{te:TE}{vs:List Nat}{σ:St}{H:Hp}{Q:VK}{S:Addr→Prop}{J:It}{xs:List V}{ds:List D} (k:New S H (.l ds) Q) (hw:∀ R:It→Hp→Prop,R J H→wi σ H R) (hJ:Walks J H xs)
 (hlen:xs.length=ds.length) (hz:xs.length < sizeLine)
 (item:∀ (i:Nat) v d H1,xs[i]?=some v→ds[i]?=some d→bg H H1→∀ (Z:VK) (W:Hp→Prop),(∀ y H4,bg H1 H4→Dv (nw (on S H) H1) H4 y d→Z y H4)→
   g v (wipe σ vs) H1 fun σ2 H2=>wipe σ2 vs=wipe σ vs∧Tb σ2 H2 fun b H3=>if b=true then te σ2 H3 Z else W H3):tLc wi g Tb te vs σ H Q:=by
 refine Qu (os:=ds.map some) (by rw[NS];exact k) hw hJ (by rw[ae];exact hlen) hz fun i v o H1 hv ho s1 Z W hZ hW=>?_
 rw[bq] at ho
 obtain⟨d,hd,rfl⟩:=cY.mp ho
 exact item i v d H1 hv hd s1 Z W fun y H4=>hZ d rfl y H4
end L2
namespace HT
open PySem PyProof.Rows
open PySem.SeqAt
open PySem.AutoSeq1 (wpAny_loadPart')
open PySem.MeetsSeq PySem.MeetsSeq2 PySem.MeetsSeq3
theorem OL {vs:List Value}{ns:List Int} (h:IntsAre vs ns):∀ {i:Nat}{a:Int},ns[i]?=some a→∃ t,vs[i]?=some (.int a t):=by
 induction h with
 | nil=>intro i a e;simp at e
 | cons a t _ ih=>
   intro i b e
   cases i with
   | zero=>
     have e:a=b:=aa e
     subst e
     exact⟨t,rfl⟩
   | succ i=>exact ih e
theorem Oz (l b:Addr) (items ny:Array Value) (n n2:Nat) (dd dd2:Option Addr) (sl sl2:Array (Option Value)) (ns ms:List Int) (hi:IntsAre items.toList ns) (hj:IntsAre ny.toList ms) (k:Nat):
 ∀ i:Nat,items.size - i=k→i≤items.size→i≤ny.size→Meets (Builtin.«list.__eq__.loop» ⟨[.ref l,.ref b,rawInt i,rawInt 0],[]⟩)
   (fun A R s=>s.heap.get? l=some { cls:=.type "list",dict:=dd,data:=.seq items n,slots:=sl }∧s.heap.get? b=some { cls:=.type "list",dict:=dd2,data:=.seq ny n2,slots:=sl2 }∧
     R (.ok (.ret (.bool (lexLt (ns.drop i) (ms.drop i))))) s):=by
 have z1:items.size=ns.length:=by rw[← hi.length];simp
 have z2:ny.size=ms.length:=by rw[← hj.length];simp
 have last:∀ i:Nat,i≤items.size→i≤ny.size→(items.size≤i∨ny.size≤i)→lexLt (ns.drop i) (ms.drop i)=decide (items.size < ny.size):=fun i h1 h2 h3=>by
  rcases qd i items.size with q | q
  ·have e2:ms.drop i=[]:=gZ (by omega)
   have e1:ns.drop i=ns[i]::ns.drop (i+1):=cK (by omega)
   rw[e1,e2,Iu,decide_eq_false (by omega)]
  ·have e1:ns.drop i=[]:=gZ (by omega)
   rcases qd i ny.size with r | r
   ·have e2:ms.drop i=ms[i]::ms.drop (i+1):=cK (by omega)
    rw[e1,e2,Ir,decide_eq_true (by omega)]
   ·have e2:ms.drop i=[]:=gZ (by omega)
    rw[e1,e2,Kk,decide_eq_false (by omega)]
 induction k with
 | zero=>
   intro i hk h1 h2 prog w A R s h
   obtain⟨hp,g,d,tk,os⟩:=s;obtain⟨hl,hb,h⟩:=h
   wp_walk using wpAny_loadPart' hl,wpAny_loadPart' hb
   have hi1:items[((i:Nat):Int).toNat]?=none:=by simp;omega
   rw[hi1]
   wp_walk using wpAny_loadPart' hl,wpAny_loadPart' hb
   rw[last i h1 h2 (.inl (by omega))] at h
   exact h
 | succ k ih=>
   intro i hk h1 h2 prog w A R s h
   obtain⟨hp,g,d,tk,os⟩:=s;obtain⟨hl,hb,h⟩:=h
   wp_walk using wpAny_loadPart' hl,wpAny_loadPart' hb
   have hlt:i < items.size:=by omega
   rcases qd i ny.size with adg | acE
   ·obtain⟨a,ha⟩:∃ a,ns[i]?=some a:=⟨_,aK (by omega)⟩
    obtain⟨c,hc⟩:∃ c,ms[i]?=some c:=⟨_,aK (by omega)⟩
    obtain⟨t,ht⟩:=OL hi ha
    obtain⟨u,hu⟩:=OL hj hc
    have hi1:items[((i:Nat):Int).toNat]?=some (.int a t):=by rw[cc,← zt];exact ht
    have hi2:ny[((i:Nat):Int).toNat]?=some (.int c u):=by rw[cc,← zt];exact hu
    have e1:ns.drop i=a::ns.drop (i+1):=by
     rw[cK (by omega)]
     congr 1
     exact aa ((aK (by omega)).symm.trans ha)
    have e2:ms.drop i=c::ms.drop (i+1):=by
     rw[cK (by omega)]
     congr 1
     exact aa ((aK (by omega)).symm.trans hc)
    have hcc:((i:Int)+1)=((i+1:Nat):Int):=by push_cast;rfl
    rw[e1,e2,Qs] at h
    rw[hi1,hi2]
    obtain⟨e,he,ZU⟩:=UX A.in1 ⟨hp,g,d,tk,os⟩ a t c u
    refine ao (he prog w _ _ ?_)
    cases e with
    | true=>
      rw[if_pos (ZU.mp rfl)] at h
      wp_walk
      rw[hcc]
      exact⟨mD plain_eq_loop _,pQ entry_eq_loop (by
       rw[Around.under_plainId plain_eq_loop _]
       exact ih (i+1) (by omega) (by omega) (by omega) prog w A R _ ⟨hl,hb,h⟩)⟩
    | false=>
      rw[if_neg (fun q=>absurd (ZU.mpr q) aZ)] at h
      wp_walk using wpAny_loadPart' hl,wpAny_loadPart' hb
      rw[hi1,hi2]
      have hri:=Tr A.in1 ⟨hp,g,d,tk,os⟩ a t c u prog w
      wp_walk using hri
      simpa using h
   ·have hi1:∃ x,items[((i:Nat):Int).toNat]?=some x:=⟨items[i],by simp[hlt]⟩
    have hi2:ny[((i:Nat):Int).toNat]?=none:=by simp;omega
    obtain⟨x,hx⟩:=hi1
    rw[hx,hi2]
    wp_walk using wpAny_loadPart' hl,wpAny_loadPart' hb
    rw[last i h1 h2 (.inr acE)] at h
    exact h
theorem MM (l b:Addr) (items ny:Array Value) (n n2:Nat) (dd dd2:Option Addr) (sl sl2:Array (Option Value)) (ns ms:List Int) (hi:IntsAre items.toList ns) (hj:IntsAre ny.toList ms):
 Meets (Builtin.«list.__lt__» ⟨[.ref l,.ref b],[]⟩)
  (fun A R s=>s.heap.get? l=some { cls:=.type "list",dict:=dd,data:=.seq items n,slots:=sl }∧s.heap.get? b=some { cls:=.type "list",dict:=dd2,data:=.seq ny n2,slots:=sl2 }∧
    R (.ok (.ret (.bool (lexLt ns ms)))) s):=by
 intro prog w A R s h
 obtain⟨hp,g,d,tk,os⟩:=s;obtain⟨hl,hb,h⟩:=h
 have f3:=AutoSeq1.sub_list_list
 wp_walk using wpAny_loadPart' hl,wpAny_loadPart' hb
 exact⟨mD plain_eq_loop _,pQ entry_eq_loop (by
  rw[Around.under_plainId plain_eq_loop _]
  exact Oz l b items ny n n2 dd dd2 sl sl2 ns ms hi hj _ 0 rfl (aT _) (aT _) prog w A R _ ⟨hl,hb,h⟩)⟩
end HT
namespace L2
open PySem PySem.Spec PyProof.Rows
section
variable {X:Cx}
def aaV (K:ai):R2:=fun x y H Q=>∃ a b ns ms,x=.ref a∧y=.ref b∧SqL K H a (ns.map V.int)∧SqL K H b (ms.map V.int)∧Q (.bl (HT.lexLt ns ms)) H
theorem XA (hu:X.A.units < cLine):OpR X (compareOp .Lt) (aaV X.K):=by
 intro pins s σ H x y v u Q I rx ry h
 obtain⟨a,b,ns,ms,rfl,rfl,ha,hb,q⟩:=h
 cases rx
 cases ry
 obtain⟨its,r1,p1,_⟩:=I.list ha
 obtain⟨MO,r2,p2,_⟩:=I.list hb
 have i1:IntsAre its.toArray.toList ns:=intsAre_of r1
 have i2:IntsAre MO.toArray.toList ms:=intsAre_of r2
 obtain⟨⟨cls,dd,data,sl⟩,n,ho,hc,hd,uN⟩:=p1
 obtain⟨⟨ado,dd2,data2,sl2⟩,n2,ho2,hc2,hd2,WT⟩:=p2
 simp only at hc hd uN hc2 hd2 WT
 subst hc hd uN hc2 hd2 WT
 exact richCompare_meets_room (op:=.Lt) ⟨_,ho,rfl⟩ ⟨_,ho2,rfl⟩ PySem.F.slot_list_lt PySem.F.entry_list_lt (PySem.F.args_list_lt_2 _ _) (HT.MM a b _ _ n n2 _ _ sl sl2 ns ms i1 i2)
  ⟨ho,ho2,show Value.bool (HT.lexLt ns ms)≠Value.notImplemented∧_ from⟨(fun x=>nomatch x),⟨.bl (HT.lexLt ns ms),H,I,rfl,q⟩⟩⟩ hu
end
end L2
namespace L2
open PySem PySem.Spec PyProof.Rows
theorem Dv.up {S:Addr→Prop}{H H1:Hp}{v:V}{d:D} (h:Dv S H v d) (s:bg H H1):Dv (nw S H) H1 v d:=(h.sub H0).keep (Kp.of_same s)
theorem bh.up {S:Addr→Prop}{H H1:Hp}{v:List V}{d:List D} (h:bh S H v d) (s:bg H H1):bh (nw S H) H1 v d:=(h.sub H0).keep (Kp.of_same s)
theorem mkL {S:Addr→Prop}{H:Hp}{xs:List V}{ds:List D}{C:Addr→Prop} (h:bh S H xs ds) (hz:xs.length≤1000000) (k:∀ p,bg H (upd H p (.lst xs))→Dv (nw S H) (upd H p (.lst xs)) (.ref p) (.l ds)→C p):xs.length≤sizeLine∧∀ p,H p=none→C p:=
 ⟨bP hz (by decide),fun p hp=>k _ (bg.new hp) (.lst (.inr hp) aE (h.up (bg.new hp)))⟩
theorem mkT {S:Addr→Prop}{H:Hp}{xs:List V}{ds:List D}{C:Addr→Prop} (h:bh S H xs ds) (hz:xs.length≤1000000) (k:∀ p,bg H (upd H p (.tup xs))→Dv (nw S H) (upd H p (.tup xs)) (.ref p) (.t ds)→C p):xs.length≤sizeLine∧∀ p,H p=none→C p:=
 ⟨bP hz (by decide),fun p hp=>k _ (bg.new hp) (.tup aE (h.up (bg.new hp)))⟩
theorem rep1 {α:Type} (x:α):∀ n,(aj n [x]).flatten=aj n x
 | 0=>rfl
 | n+1=>by rw[cv,cv,eC,rep1 x n];rfl
theorem Ov {S:Addr→Prop}{H:Hp}{v:V}{d:D}{n:Nat}{Q:VK} (h:Dv S H v (.l [d])) (hn:n≤1000000) (k:∀ H1 u,bg H H1→Dv (nw S H) H1 u (.l (aj n d))→Q u H1):Y5 v (.int n) H Q:=by
 obtain⟨l,xs,rfl,_,hl,hx⟩:=h.wM
 obtain⟨x,us,rfl,hd,hx⟩:=hx.fB
 obtain rfl:=hx.xK
 refine⟨l,n,_,rfl,rfl,hl,by omega,by omega,?_,fun p hp=>?_⟩
 ·show 1 * (n:Int).toNat≤sizeLine
  rw[Nat.one_mul,cc]
  exact bP hn (by decide)
 ·rw[cc,rep1]
  exact k _ _ (bg.new hp) (.lst (.inr hp) aE ((bh.rep hd n).up (bg.new hp)))
theorem T2 {S:Addr→Prop}{H:Hp}{v u:V}{ds es:List D}{Q:VK} (h:Dv S H v (.l ds)) (h2:Dv S H u (.l es)) (hn:ds.length+es.length≤1000000) (k:∀ H1 u,bg H H1→Dv (nw S H) H1 u (.l (ds++es))→Q u H1):Y6 v u H Q:=by
 obtain⟨l,xs,rfl,_,hl,hx⟩:=h.wM
 obtain⟨m,ys,rfl,_,hm,hy⟩:=h2.wM
 refine⟨l,m,_,_,rfl,rfl,hl,hm,?_,fun p hp=>?_⟩
 ·rw[hx.len,hy.len]
  exact bP hn (by decide)
 ·exact k _ _ (bg.new hp) (.lst (.inr hp) aE ((hx.append hy).up (bg.new hp)))
end L2
namespace U
open PySem PySem.Spec PyProof.Rows L2
open PySem.W (Codec)
section
variable {P:Program}{w:World}{K:ai}{mg:Str→Option Value}{base:Heap}{t:Adr}
theorem uc {ns:List Int}{i:Nat}{x:Int} (h:ns[i]?=some x):(ns.map V.int)[i]?=some (.int x):=by
 rw[bq,h];rfl
theorem ints_get {ns:List Int}{i:Nat}{v:V} (h:(ns.map V.int)[i]?=some v):∃ x,ns[i]?=some x∧v=.int x:=by
 rw[bq] at h
 obtain⟨x,h1,h2⟩:=cY.mp h
 exact⟨x,h1,h2.symm⟩
theorem cx {α β:Type}{l:List α}{f:α→β}{i:Nat}{y:β} (h:(l.map f)[i]?=some y):∃ x,l[i]?=some x∧y=f x:=by
 rw[bq] at h
 obtain⟨x,h1,h2⟩:=cY.mp h
 exact⟨x,h1,h2.symm⟩
theorem Dv.m8 {S:Addr→Prop}{H:Hp}{v:V}{ns:List Int} (h:Dv S H v (.t (ns.map D.i))):∃ a,v=.ref a∧H a=some (.tup (ns.map V.int)):=by
 obtain⟨a,xs,rfl,h,ha⟩:=h.tupI
 rw[bh.Mz ns ha] at h
 exact⟨a,rfl,h⟩
theorem Dv.lint {S:Addr→Prop}{H:Hp}{v:V}{ns:List Int} (h:Dv S H v (.l (ns.map D.i))):∃ a,v=.ref a∧S a∧H a=some (.lst (ns.map V.int)):=by
 obtain⟨a,xs,rfl,s,h,ha⟩:=h.wM
 rw[bh.Mz ns ha] at h
 exact⟨a,rfl,s,h⟩
theorem small (n:Nat) (h:n≤1000000):n < sizeLine:=kP h (by decide)
def Hg:Sp:=fun vs H Q _=>∃ n:Int,vs=[.int n]∧Q (.bl (decide (n≤15))) H
theorem yL (T:Txt K mg t):cI P w K mg base CX0 1 t.ko t.mK ["number"] Hg:=by
 refine T.kD.ok Ht (fun vs H Q E h=>by obtain⟨_,e,_⟩:=h;subst e;rfl) (fun cdv A outer s H vs Q E hr h=>?_)
 obtain⟨n,rfl,k⟩:=h
 refine⟨_,(aA (a6 (Mu TN (pv 0) (bz rfl T.Ju T.Jm) (bL _)))),?_⟩
 exact⟨_,rfl,_,_,rfl,rfl,k⟩
open KpTop (tri duo)
def NM (f:Int×Int×Int):D:=.t ([f.1,f.2.1,f.2.2].map D.i)
theorem LV:∀ ns:List Int,(tri ns).length=ns.length / 3
 | []=>rfl
 | [_]=>by simp[tri]
 | [_,_]=>by simp[tri]
 | x::y::z::r=>by
   show(tri r).length+1=(r.length+3) / 3
   rw[LV r]
   omega
theorem QY:∀ (ns:List Int) (i:Nat),i < ns.length / 3→∃ x y z,ns[3 * i]?=some x∧ns[3 * i+1]?=some y∧ns[3 * i+2]?=some z∧(tri ns)[i]?=some (x,y,z)
 | [],i,h=>by simp at h
 | [_],i,h=>by simp at h
 | [_,_],i,h=>by simp at h
 | x::y::z::r,0,h=>⟨x,y,z,rfl,rfl,rfl,rfl⟩
 | x::y::z::r,i+1,h=>by
   have h:i+1 < (r.length+3) / 3:=h
   obtain⟨a,b,c,h1,h2,h3,h4⟩:=QY r i (by omega)
   refine⟨a,b,c,?_,?_,?_,h4⟩
   ·rw[show 3 * (i+1)=3 * i+3 by omega];exact h1
   ·rw[show 3 * (i+1)+1=3 * i+1+3 by omega];exact h2
   ·rw[show 3 * (i+1)+2=3 * i+2+3 by omega];exact h3
def O5 (f:Int×Int):D:=.t ([f.1,f.2].map D.i)
theorem M3:∀ ns:List Int,(duo ns).length=ns.length / 2
 | []=>rfl
 | [_]=>by simp[duo]
 | x::y::r=>by
   show(duo r).length+1=(r.length+2) / 2
   rw[M3 r]
   omega
theorem Rw:∀ (ns:List Int) (i:Nat),i < ns.length / 2→∃ x y,ns[2 * i]?=some x∧ns[2 * i+1]?=some y∧(duo ns)[i]?=some (x,y)
 | [],i,h=>by simp at h
 | [_],i,h=>by simp at h
 | x::y::r,0,h=>⟨x,y,rfl,rfl,rfl⟩
 | x::y::r,i+1,h=>by
   have h:i+1 < (r.length+2) / 2:=h
   obtain⟨a,b,h1,h2,h4⟩:=Rw r i (by omega)
   refine⟨a,b,?_,?_,h4⟩
   ·rw[show 2 * (i+1)=2 * i+2 by omega];exact h1
   ·rw[show 2 * (i+1)+1=2 * i+1+2 by omega];exact h2
theorem Walks.Y2 {H:Hp}{lo c:Int}{n:Nat}:Walks (Itc lo c n) H ((bS n).map (fun(i:Nat)=>V.int (lo+(i:Int) * c))):=by
 refine⟨fun H' s i hi=>?_,fun H' s i hi x H2 y=>⟨y.1,?_⟩,fun H' s=>?_⟩
 ·rw[ae,bJ] at hi
  exact hi
 ·have e:=y.2
  subst e
  rw[ae,bJ] at hi
  rw[bq,DT hi]
  rfl
 ·rw[ae,bJ]
  exact aB _
theorem Q0 {n:Nat}{f:Nat→V}{i:Nat}{v:V} (h:((bS n).map f)[i]?=some v):i < n∧v=f i:=by
 obtain⟨x,h1,h2⟩:=cx h
 have hi:i < n:=by
  have:=(aP.mp h1).1
  rwa [bJ] at this
 rw[DT hi] at h1
 obtain rfl:=aa h1
 exact⟨hi,h2⟩
def L5 (K:ai):Sp:=fun vs H Q _=>Ex3 fun(S:Addr→Prop) (a:Addr) (ns:List Int)=>vs=[.ref a]∧SqL K H a (ns.map V.int)∧ns.length % 3=0∧ns.length≤30000∧New S H (.l ((tri ns).map NM)) Q
theorem Mw (T:Txt K mg t):cI P w K mg base CX0 1 t.nH t.qA ["row"] (L5 K):=by
 refine T.qH.ok wo (fun vs H Q E h=>by obtain⟨_,_,_,e,_⟩:=h;subst e;rfl) (fun cdv A outer s H vs Q E hr h=>?_)
 obtain⟨S,a,ns,rfl,hS,h3,hl,k⟩:=h
 refine⟨_,(aA (a6 (rE (own:=[("k",1)]) rfl wo.nd (K8 rfl T.zm (ah aH (ah (dH cj (by rfl) T.nO cb (ah (pv 0) aq)) (ah aH aq)))) (show lp Fi (aL t4) _ _ from⟨rfl,by decide +kernel,by decide +kernel,by decide +kernel,by decide +kernel⟩) (fun _ _ _ _ _=>(cg (i:=1) wo.nd rfl (ba rfl))) (fun _ _ _ _ _=>iA) (fun _ _ _ _ _=>(dG (ah (a9 (r:=R6 K) fj (pv 0) (pv 1) (fun _ _=>rfl)) (ah (a9 (r:=R6 K) fj (pv 0) (i4 pF (pv 1) aH) (fun _ _=>rfl)) (ah (a9 (r:=R6 K) fj (pv 0) (i4 pF (pv 1) aH) (fun _ _=>rfl)) aq)))))))),?_⟩
 have hr3:RgC 0 (ns.length:Int) 3 (ns.length / 3):=Tj (c:=3) (by decide) (by decide) (by omega) (by omega)
 refine uK (J:=Itc 0 3 (ns.length / 3)) k (fun R h=>⟨_,rfl,a,_,rfl,.inl hS,0,(ns.length:Int),3,ns.length / 3,by rw[ae],hr3,h⟩) Walks.Y2 (by rw[ae,bJ,ae,LV]) (by rw[ae,bJ];exact small _ (by omega)) ?_
 intro i v d H1 hv hd s1 Z W hZ
 obtain⟨hi,rfl⟩:=Q0 hv
 obtain⟨f,hf,rfl⟩:=cx hd
 obtain⟨x,y,z,e1,e2,e3,e4⟩:=QY ns i hi
 rw[e4] at hf
 obtain rfl:=aa hf
 have hS1:=s1.seq hS
 refine⟨rfl,LU ?_⟩
 refine⟨_,rfl,_,rfl,a,_,_,_,rfl,rfl,hS1,at_of (j:=3 * i) (by omega) (uc e1),?_⟩
 refine⟨_,rfl,_,rfl,_,_,rfl,rfl,a,_,_,_,rfl,rfl,hS1,at_of (j:=3 * i+1) (by omega) (uc e2),?_⟩
 refine⟨_,rfl,_,rfl,_,_,rfl,rfl,a,_,_,_,rfl,rfl,hS1,at_of (j:=3 * i+2) (by omega) (uc e3),?_⟩
 refine⟨(by show 3≤sizeLine;decide),fun p hp=>?_⟩
 exact hZ _ _ (bg.new hp) (.tup aE (bh.ints [x,y,z]))
def JG (K:ai):Sp:=fun vs H Q _=>Ex3 fun(S:Addr→Prop) (a:Addr) (ns:List Int)=>vs=[.ref a]∧SqL K H a (ns.map V.int)∧ns.length % 2=0∧ns.length≤30000∧New S H (.l ((duo ns).map O5)) Q
theorem J6 (T:Txt K mg t):cI P w K mg base CX0 1 t.lN t.om ["row"] (JG K):=by
 refine T.oJ.ok uv (fun vs H Q E h=>by obtain⟨_,_,_,e,_⟩:=h;subst e;rfl) (fun cdv A outer s H vs Q E hr h=>?_)
 obtain⟨S,a,ns,rfl,hS,h3,hl,k⟩:=h
 refine⟨_,(aA (a6 (rE (own:=[("k",1)]) rfl uv.nd (K8 rfl T.zm (ah aH (ah (dH cj (by rfl) T.nO cb (ah (pv 0) aq)) (ah aH aq)))) (show lp CU (aL rX) _ _ from⟨rfl,by decide +kernel,by decide +kernel,by decide +kernel,by decide +kernel⟩) (fun _ _ _ _ _=>(cg (i:=1) uv.nd rfl (ba rfl))) (fun _ _ _ _ _=>iA) (fun _ _ _ _ _=>(dG (ah (a9 (r:=R6 K) fj (pv 0) (pv 1) (fun _ _=>rfl)) (ah (a9 (r:=R6 K) fj (pv 0) (i4 pF (pv 1) aH) (fun _ _=>rfl)) aq))))))),?_⟩
 have hr3:RgC 0 (ns.length:Int) 2 (ns.length / 2):=Tj (c:=2) (by decide) (by decide) (by omega) (by omega)
 refine uK (J:=Itc 0 2 (ns.length / 2)) k (fun R h=>⟨_,rfl,a,_,rfl,.inl hS,0,(ns.length:Int),2,ns.length / 2,by rw[ae],hr3,h⟩) Walks.Y2 (by rw[ae,bJ,ae,M3]) (by rw[ae,bJ];exact small _ (by omega)) ?_
 intro i v d H1 hv hd s1 Z W hZ
 obtain⟨hi,rfl⟩:=Q0 hv
 obtain⟨f,hf,rfl⟩:=cx hd
 obtain⟨x,y,e1,e2,e4⟩:=Rw ns i hi
 rw[e4] at hf
 obtain rfl:=aa hf
 have hS1:=s1.seq hS
 refine⟨rfl,LU ?_⟩
 refine⟨_,rfl,_,rfl,a,_,_,_,rfl,rfl,hS1,at_of (j:=2 * i) (by omega) (uc e1),?_⟩
 refine⟨_,rfl,_,rfl,_,_,rfl,rfl,a,_,_,_,rfl,rfl,hS1,at_of (j:=2 * i+1) (by omega) (uc e2),?_⟩
 refine⟨(by show 2≤sizeLine;decide),fun p hp=>?_⟩
 exact hZ _ _ (bg.new hp) (.tup aE (bh.ints [x,y]))
end
end U
namespace U
open PySem PySem.Spec PyProof.Rows L2
open PySem.W (Codec)
open KpTop (tri duo)
section
variable {P:Program}{w:World}{K:ai}{mg:Str→Option Value}{base:Heap}{t:Adr}
def rise:List Int→Bool
 | x::y::r=>decide (x < y) && rise (y::r)
 | _=>true
theorem Hy:∀ ns:List Int,rise ns=true↔∀ i x y,ns[i]?=some x→ns[i+1]?=some y→x < y
 | []=>by simp[rise]
 | [a]=>by simp[rise]
 | x::y::r=>by
   have ih:=Hy (y::r)
   show(decide (x < y) && rise (y::r))=true↔_
   rw[a5,decide_eq_true_eq,ih]
   constructor
   ·rintro⟨h1,h2⟩ i a b ha hb
    cases i with
    | zero=>
      have ha:x=a:=aa ha
      have hb:y=b:=aa hb
      omega
    | succ i=>exact h2 i a b ha hb
   ·intro h
    exact⟨h 0 x y rfl rfl,fun i a b ha hb=>h (i+1) a b ha hb⟩
def JE (K:ai):Sp:=fun vs H Q _=>Ex2 fun(a:Addr) (ns:List Int)=>vs=[.ref a]∧SqL K H a (ns.map V.int)∧ns.length≤30000∧Q (.bl (rise ns)) H
theorem J4 (T:Txt K mg t):cI P w K mg base CX0 1 t.lL t.oh ["names"] (JE K):=by
 refine T.oH.ok Ax (fun vs H Q E h=>by obtain⟨_,_,e,_⟩:=h;subst e;rfl) (fun cdv A outer s H vs Q E hr h=>?_)
 obtain⟨a,ns,rfl,hS,hl,k⟩:=h
 refine⟨_,(ak (iW PassesOwn.never rfl (K9 rfl T.zm (ah aH (ah (dH cj (by rfl) T.nO cb (ah (pv 0) aq)) aq))) (cg (i:=1) Ax.nd rfl (ba rfl)) (aA (b9 (bo TN (a9 fj (pv 0) (pv 1) (fun _ _=>rfl)) (a9 fj (pv 0) (i4 HN (pv 1) aH) (fun _ _=>rfl)) (bL _)) (aA (a6 xq)) bp)))
  (aA (a6 xq))),?_⟩
 refine⟨_,rfl,a,_,rfl,.inl hS,?_⟩
 rw[ae]
 refine⟨1,(ns.length:Int),rfl,⟨by decide,by decide,by omega,by omega⟩,?_⟩
 refine ET (lo:=1) (n:=((ns.length:Int) - 1).toNat) (fun i σ H'=>H'=H∧(∃ v,σ=[some (.ref a),v])∧∀ j x y,j < i→ns[j]?=some x→ns[j+1]?=some y→x < y) ⟨rfl,⟨_,rfl⟩,fun j _ _ h=>absurd h (by omega)⟩ ?_ ?_
 ·rintro i σ H' hi ⟨rfl,⟨v,rfl⟩,hj⟩
  obtain⟨x,hx⟩:∃ x,ns[i]?=some x:=⟨_,aK (show i < ns.length by omega)⟩
  obtain⟨y,hy⟩:∃ y,ns[i+1]?=some y:=⟨_,aK (show i+1 < ns.length by omega)⟩
  refine⟨_,rfl,_,rfl,a,_,_,_,rfl,rfl,hS,at_of (j:=i+1) (by omega) (uc hy),?_⟩
  refine⟨_,rfl,_,rfl,_,_,rfl,rfl,a,_,_,_,rfl,rfl,hS,at_of (j:=i) (by omega) (uc hx),?_⟩
  refine⟨_,_,rfl,rfl,_,rfl,qx (fun h=>?_) (fun h=>?_)⟩
  ·have h:y≤x:=of_decide_eq_true h
   have:rise ns=false:=by
    cases e:rise ns with
    | false=>rfl
    | true=>
      have:=(Hy ns).mp e i x y hx hy
      omega
   rw[this] at k
   exact k
  ·refine⟨rfl,⟨_,rfl⟩,fun j x' y' h1 h2 h3=>?_⟩
   have h:¬ y≤x:=fun z=>h (decide_eq_true z)
   rcases qd j i with q | q
   ·exact hj j x' y' q h2 h3
   ·have:j=i:=by omega
    subst this
    rw[hx] at h2
    rw[hy] at h3
    obtain rfl:=aa h2
    obtain rfl:=aa h3
    omega
 ·rintro σ H' ⟨rfl,⟨v,rfl⟩,hj⟩
  have:rise ns=true:=(Hy ns).mpr fun i x y h1 h2=>hj i x y (by
   have:=(aP.mp h2).1
   omega) h1 h2
  rw[this] at k
  exact k
theorem MY {K:ai}{a:Addr}{ns:List Int}{tb:TS}{D:Ends}{σ:L2.St}{H:Hp}{j:Nat} (p:Int→Bool) (hS:SqL K H a (ns.map V.int))
 (hs:∀ (v:Option V) (x:Int) (N:L2.St→Hp→Prop),x∈ns→(p x=false→ns.all p=false)→(p x=true→∀ σ',σ'=(σ.set j v).set j (some (.int x))→N σ' H)→tb { D with nx:=N,ct:=N,bk:=D.nx } ((σ.set j v).set j (some (.int x))) H)
 (hd:ns.all p=true→∀ v,D.nx (σ.set j v) H) (hj:∃ v,σ=σ.set j v):
 ∃ W:Nat→Nat→L2.St→Hp→Prop,(∃ m,W 0 m σ H)∧∀ i m σ H,W i m σ H→
   ((Itl K a).stop i H∧D.nx σ H)∨((Itl K a).go i H∧∃ N:L2.St→Hp→Prop,(∀ σ' H',N σ' H'→∃ m',m' < m∧W (i+1) m' σ' H')∧∀ x H',(Itl K a).yld i H x H'→AG j x σ H' fun σ2 H2=>tb { D with nx:=N,ct:=N,bk:=D.nx } σ2 H2):=by
 refine mI (K:=K) (a:=a) (xs:=ns.map V.int) (g:=AG j) (fun i σ' H'=>H'=H∧(∃ v,σ'=σ.set j v)∧∀ x∈ns.take i,p x=true) ⟨rfl,hj,by simp⟩ (fun i σ H' _ h=>by rw[h.1];exact hS) ?_ ?_
 ·rintro i y σ' H' hi ⟨rfl,⟨v,rfl⟩,hj⟩
  obtain⟨x,hx,rfl⟩:=ints_get hi
  refine hs v x _ (a7 hx) (fun h=>?_) (fun h σ' e=>⟨rfl,⟨some (.int x),by rw[e,List.set_set]⟩,fun z hz=>?_⟩)
  ·rw[List.all_eq_false]
   exact⟨x,a7 hx,by rw[h];simp⟩
  ·rw[cV hx] at hz
   rcases az.mp hz with q | q
   ·exact hj z q
   ·have:z=x:=by simpa using q
    rw[this]
    exact h
 ·rintro σ' H' ⟨rfl,⟨v,rfl⟩,hj⟩
  rw[ae,cz] at hj
  exact hd (bQ.mpr hj) v
def De (ns:List Int):Bool:=decide (ns.length≤8) && (ns.all (fun x=>decide (x≤63)) && rise ns)
def Cd (K:ai):Sp:=fun vs H Q _=>Ex2 fun(a:Addr) (ns:List Int)=>vs=[.ref a]∧SqL K H a (ns.map V.int)∧ns.length≤30000∧Q (.bl (De ns)) H
theorem t7 (T:Txt K mg t):cI P w K mg base CX0 2 t.gz t.jr ["names"] (Cd K):=by
 refine T.gF.ok tZ (fun vs H Q E h=>by obtain⟨_,_,e,_⟩:=h;subst e;rfl) (fun cdv A outer s H vs Q E hr h=>?_)
 obtain⟨a,ns,rfl,hS,hl,k⟩:=h
 refine⟨_,(ak (b9 (bo ve (dH cj (by rfl) T.nO cb (ah (pv 0) aq)) (bz rfl T.Nu T.Ni) (bL _)) (aA (a6 xq)) bp)
  (ak (iW PassesOwn.never rfl (eY (pv 0)) (cg (i:=1) tZ.nd rfl (ba rfl)) (aA (b9 (bo ve (pv 1) (bz rfl T.Jt T.Jl) (bL _)) (aA (a6 xq)) bp)))
  (aA (a6 (bG (J4 T) (hr.mono (by decide)) rfl T.Np T.oH.kp T.Ny .nil bw (ah (pv 0) aq)))))),?_⟩
 refine⟨_,rfl,a,_,rfl,.inl hS,_,_,rfl,rfl,_,rfl,qx (fun h=>?_) (fun h=>?_)⟩
 ·have h:(8:Int) < (ns.map V.int).length:=of_decide_eq_true h
  rw[ae] at h
  have:De ns=false:=by
   unfold De
   rw[decide_eq_false (by omega)]
   rfl
  rw[this] at k
  exact k
 ·have h:¬ (8:Int) < (ns.map V.int).length:=fun z=>h (decide_eq_true z)
  rw[ae] at h
  have h8:decide (ns.length≤8)=true:=decide_eq_true (by omega)
  refine⟨_,rfl,a,rfl,⟨_,hS⟩,MY (fun x=>decide (x≤63)) hS (fun v x N hx hf ht=>?_) (fun hA v=>?_) ⟨none,rfl⟩⟩
  ·refine⟨_,rfl,_,_,rfl,rfl,_,rfl,qx (fun h=>?_) (fun h=>?_)⟩
   ·have h:(63:Int) < x:=of_decide_eq_true h
    unfold De at k
    rw[hf (decide_eq_false (by omega)),mE,Bool.and_false] at k
    exact k
   ·have h:¬ (63:Int) < x:=fun z=>h (decide_eq_true z)
    exact ht (decide_eq_true (by omega)) _ rfl
  ·refine⟨_,rfl,a,ns,rfl,hS,hl,?_⟩
   unfold De at k
   rw[h8,hA] at k
   exact k
def FJ (K:ai):Sp:=fun vs H Q _=>Ex2 fun(a:Addr) (ns:List Int)=>vs=[.ref a]∧SqL K H a (ns.map V.int)∧Q (.bl (ns.all fun x=>decide (x≤15))) H
theorem xr (T:Txt K mg t):cI P w K mg base CX0 2 t.jq t.k8 ["numbers"] (FJ K):=by
 refine T.jA.ok xp (fun vs H Q E h=>by obtain⟨_,_,e,_⟩:=h;subst e;rfl) (fun cdv A outer s H vs Q E hr h=>?_)
 obtain⟨a,ns,rfl,hS,k⟩:=h
 refine⟨_,(ak (iW PassesOwn.never rfl (eY (pv 0)) (cg (i:=1) xp.nd rfl (ba rfl)) (aA (b9 (Bp (uE (bG (yL T) (hr.mono (by decide)) rfl T.AO T.kD.kp T.AQ .nil bw (ah (pv 1) aq)))) (aA (a6 xq)) bp)))
  (aA (a6 xq))),?_⟩
 refine⟨_,rfl,a,rfl,⟨_,hS⟩,MY (fun x=>decide (x≤15)) hS (fun v x N hx hf ht=>?_) (fun hA v=>?_) ⟨none,rfl⟩⟩
 ·refine⟨_,rfl,x,rfl,_,rfl,qx (fun h=>?_) (fun h=>?_)⟩
  ·have h:decide (x≤15)=false:=by simpa using h
   rw[hf h] at k
   exact k
  ·have h:decide (x≤15)=true:=by simpa using h
   exact ht h _ rfl
 ·rw[hA] at k
  exact k
theorem wN {K:ai}{wi:TI}{α:Type}{ls:List α}{f:α→List Int}{c:α→Int}{i:Nat}{j:Nat}{te:TE}{σ:L2.St}{H:Hp}{Q:VK}{S:Addr→Prop}{J:It}{xs:List V} (k:New S H (.l ((ls.map c).map D.i)) Q)
 (hw:∀ R:It→Hp→Prop,R J H→wi σ H R) (hJ:Walks J H xs) (hd:bh S H xs (ls.map fun x=>.t ((f x).map D.i))) (hz:ls.length < sizeLine) (hc:∀ x,(f x)[j]?=some (c x)) (hi:i < σ.length) (te_:te=tOp (tR K) (Vy i) (tC (.int j))) (hwi:∀ v,wipe (((wipe σ [i])).set i v) [i]=wipe σ [i]):
 tLc wi (AG i) Tb te [i] σ H Q:=by
 subst te_
 have hl:=hd.len
 rw[ae] at hl
 refine uK k hw hJ (by rw[hl,ae,ae]) (by rw[hl];exact hz) ?_
 intro n v d H1 hv hd1 s1 Z W hZ
 obtain⟨y,hy,rfl⟩:=cx hd1
 obtain⟨x,hx,rfl⟩:=cx hy
 obtain⟨d2,h2,h3⟩:=hd.get hv
 obtain⟨x',hx',rfl⟩:=cx h2
 rw[hx] at hx'
 obtain rfl:=aa hx'
 obtain⟨a,rfl,ha⟩:=Dv.m8 h3
 refine⟨hwi _,LU ⟨.ref a,?_,a,_,_,_,rfl,rfl,SqT.of (s1 _ _ ha),aF (j:=j) (uc (hc x)),hZ _ _ (bg.refl _) (.int _)⟩⟩
 rw[b5]
 show i < (List.set σ i none).length
 rw[kR]
 exact hi
def good3 (fs:List (Int×Int×Int)):Bool:=De (fs.map (·.1)) && (fs.map (·.2.2)).all (fun x=>decide (x≤15))
def AV:Sp:=fun vs H Q _=>Ex3 fun(S:Addr→Prop) (v:V) (fs:List (Int×Int×Int))=>vs=[v]∧Dv S H v (.l (fs.map NM))∧fs.length≤30000∧∀ H',bg H H'→Q (.bl (good3 fs)) H'
theorem Bq (T:Txt K mg t):cI P w K mg base CX0 3 t.fo t.iE ["fields"] AV:=by
 refine T.iN.ok gH (fun vs H Q E h=>by obtain⟨_,_,_,e,_⟩:=h;subst e;rfl) (fun cdv A outer s H vs Q E hr h=>?_)
 obtain⟨S,v,fs,rfl,hv,hl,k⟩:=h
 obtain⟨a,xs,rfl,hS,ha,hx⟩:=hv.wM
 refine⟨_,(aA (a6 (TJ (bG (t7 T) (hr.mono (by decide)) rfl T.vQ T.gF.kp T.vU .nil bw (ah (rE (own:=[("field",1)]) rfl gH.nd (eY (pv 0)) (show lp n9 (aL iy) _ _ from⟨rfl,by decide +kernel,by decide +kernel,by decide +kernel,by decide +kernel⟩) (fun _ _ _ _ _=>(cg (i:=1) gH.nd rfl (ba rfl))) (fun _ _ _ _ _=>iA) (fun _ _ _ _ _=>(a9 (r:=tR K) aY (pv 1) aH (fun _ _=>rfl)))) aq)) (TC (bG (xr T) (hr.mono (by decide)) rfl T.y4 T.jA.kp T.y6 .nil bw (ah (rE (own:=[("field",1)]) rfl gH.nd (eY (pv 0)) (show lp n9 (aL iy) _ _ from⟨rfl,by decide +kernel,by decide +kernel,by decide +kernel,by decide +kernel⟩) (fun _ _ _ _ _=>(cg (i:=1) gH.nd rfl (ba rfl))) (fun _ _ _ _ _=>iA) (fun _ _ _ _ _=>(a9 (r:=tR K) aY (pv 1) aH (fun _ _=>rfl)))) aq)))))),?_⟩
 dsimp only[NO,LW,Tc,QZ,Ha,LX]
 refine wN (S:=S) (ls:=fs) (f:=fun f=>[f.1,f.2.1,f.2.2]) (c:=(·.1)) (fun v H' s1 hD=>?_) (fun R h=>⟨_,rfl,a,rfl,⟨_,SqL.of ha⟩,h⟩) (Walks.list (SqL.of ha)) hx (small _ (by omega)) (fun _=>rfl) (show 1 < 2 by decide) rfl (fun _=>rfl)
 obtain⟨p,rfl,_,hp⟩:=Dv.lint hD
 refine⟨p,_,rfl,SqL.of hp,by rw[ae];exact hl,_,rfl,qx (fun h=>?_) (fun h=>?_)⟩
 ·have ha1:=s1 _ _ ha
  refine wN (S:=S) (ls:=fs) (f:=fun f=>[f.1,f.2.1,f.2.2]) (c:=(·.2.2)) (fun v H2 s2 hD=>?_) (fun R h=>⟨_,rfl,a,rfl,⟨_,SqL.of ha1⟩,h⟩) (Walks.list (SqL.of ha1)) (hx.keep (Kp.of_same s1)) (small _ (by omega)) (fun _=>rfl) (show 1 < 2 by decide) rfl (fun _=>rfl)
  obtain⟨p,rfl,_,hp⟩:=Dv.lint hD
  refine⟨p,_,rfl,SqL.of hp,?_⟩
  have:=k H2 (s1.trans s2)
  unfold good3 at this
  rw[h,rT] at this
  exact this
 ·have:=k H' s1
  unfold good3 at this
  rw[Bool.eq_false_iff.mpr h,mE] at this
  exact this
def good2 (fs:List (Int×Int)):Bool:=decide (fs.length≠0) && (De (fs.map (·.1)) && (fs.map (·.2)).all (fun x=>decide (x≤15)))
def zw:Sp:=fun vs H Q _=>Ex3 fun(S:Addr→Prop) (v:V) (fs:List (Int×Int))=>vs=[v]∧Dv S H v (.l (fs.map O5))∧fs.length≤30000∧∀ H',bg H H'→Q (.bl (good2 fs)) H'
theorem zQ (T:Txt K mg t):cI P w K mg base CX0 3 t.eQ t.gN ["choices"] zw:=by
 refine T.gT.ok fI (fun vs H Q E h=>by obtain⟨_,_,_,e,_⟩:=h;subst e;rfl) (fun cdv A outer s H vs Q E hr h=>?_)
 obtain⟨S,v,fs,rfl,hv,hl,k⟩:=h
 obtain⟨a,xs,rfl,hS,ha,hx⟩:=hv.wM
 refine⟨_,(ak (b9 (bo fe (dH cj (by rfl) T.nO cb (ah (pv 0) aq)) aH (bL _)) (aA (a6 xq)) bp)
  (aA (a6 (TJ (bG (t7 T) (hr.mono (by decide)) rfl T.vQ T.gF.kp T.vU .nil bw (ah (rE (own:=[("one",1)]) rfl fI.nd (eY (pv 0)) (show lp nq (aL gJ) _ _ from⟨rfl,by decide +kernel,by decide +kernel,by decide +kernel,by decide +kernel⟩) (fun _ _ _ _ _=>(cg (i:=1) fI.nd rfl (ba rfl))) (fun _ _ _ _ _=>iA) (fun _ _ _ _ _=>(a9 (r:=tR K) aY (pv 1) aH (fun _ _=>rfl)))) aq)) (TC (bG (xr T) (hr.mono (by decide)) rfl T.y4 T.jA.kp T.y6 .nil bw (ah (rE (own:=[("one",1)]) rfl fI.nd (eY (pv 0)) (show lp nq (aL gJ) _ _ from⟨rfl,by decide +kernel,by decide +kernel,by decide +kernel,by decide +kernel⟩) (fun _ _ _ _ _=>(cg (i:=1) fI.nd rfl (ba rfl))) (fun _ _ _ _ _=>iA) (fun _ _ _ _ _=>(a9 (r:=tR K) aY (pv 1) aH (fun _ _=>rfl)))) aq))))))),?_⟩
 have hlen:=hx.len
 rw[ae] at hlen
 refine⟨_,rfl,a,_,rfl,.inl (SqL.of ha),rfl,_,rfl,qx (fun h=>?_) (fun h=>?_)⟩
 ·have h:(V.int xs.length)=.int 0:=of_decide_eq_true h
  have h:(xs.length:Int)=0:=by injection h
  have:=k H (bg.refl _)
  unfold good2 at this
  rw[decide_eq_false (by omega),mE] at this
  exact this
 ·have h0:decide (fs.length≠0)=true:=decide_eq_true fun z=>h (decide_eq_true (by rw[hlen,z];rfl))
  dsimp only[NO,LW,Tc,QZ,Ha,LX]
  refine wN (S:=S) (ls:=fs) (f:=fun f=>[f.1,f.2]) (c:=(·.1)) (fun v H' s1 hD=>?_) (fun R h=>⟨_,rfl,a,rfl,⟨_,SqL.of ha⟩,h⟩) (Walks.list (SqL.of ha)) hx (small _ (by omega)) (fun _=>rfl) (show 1 < 2 by decide) rfl (fun _=>rfl)
  obtain⟨p,rfl,_,hp⟩:=Dv.lint hD
  refine⟨p,_,rfl,SqL.of hp,by rw[ae];exact hl,_,rfl,qx (fun h=>?_) (fun h=>?_)⟩
  ·have ha1:=s1 _ _ ha
   refine wN (S:=S) (ls:=fs) (f:=fun f=>[f.1,f.2]) (c:=(·.2)) (fun v H2 s2 hD=>?_) (fun R h=>⟨_,rfl,a,rfl,⟨_,SqL.of ha1⟩,h⟩) (Walks.list (SqL.of ha1)) (hx.keep (Kp.of_same s1)) (small _ (by omega)) (fun _=>rfl) (show 1 < 2 by decide) rfl (fun _=>rfl)
   obtain⟨p,rfl,_,hp⟩:=Dv.lint hD
   refine⟨p,_,rfl,SqL.of hp,?_⟩
   have:=k H2 (s1.trans s2)
   unfold good2 at this
   rw[h0,h,rT,rT] at this
   exact this
  ·have:=k H' s1
   unfold good2 at this
   rw[h0,Bool.eq_false_iff.mpr h,rT,mE] at this
   exact this
end
end U
namespace U
open PySem PySem.Spec PyProof.Rows L2
open PySem.W (Codec)
open KpTop (tri duo)
section
variable {P:Program}{w:World}{K:ai}{mg:Str→Option Value}{base:Heap}{t:Adr}
def no:Addr→Prop:=fun _=>False
def kF (f:b8):Int×Int×Int:=(f.name,if f.opt then 1 else 0,f.of_)
def Jd (f:b8):Int×Int:=(f.name,f.of_)
def kM:cp→D
 | .num lo hi=>.t ([0,(lo:Int),(hi:Int)].map D.i)
 | .text m=>.t ([1,(m:Int)].map D.i)
 | .list o lo hi=>.t ([2,(o:Int),(lo:Int),(hi:Int)].map D.i)
 | .record fs=>.t [.i 3,.t (fs.map fun f=>NM (kF f))]
 | .choice fs=>.t [.i 4,.t (fs.map fun f=>O5 (Jd f))]
def kindOf:cp→Int
 | .num _ _=>0
 | .text _=>1
 | .list _ _ _=>2
 | .record _=>3
 | .choice _=>4
def aaD (S:Addr→Prop) (H:Hp):cp→List V→Prop
 | .num lo hi,xs=>xs=[.int 0,.int lo,.int hi]
 | .text m,xs=>xs=[.int 1,.int m]
 | .list o lo hi,xs=>xs=[.int 2,.int o,.int lo,.int hi]
 | .record fs,xs=>∃ a ys,xs=[.int 3,.ref a]∧H a=some (.tup ys)∧bh S H ys (fs.map fun f=>NM (kF f))
 | .choice fs,xs=>∃ a ys,xs=[.int 4,.ref a]∧H a=some (.tup ys)∧bh S H ys (fs.map fun f=>O5 (Jd f))
theorem ud {S:Addr→Prop}{H:Hp}{v:V}{x:cp} (h:Dv S H v (kM x)):∃ p xs,v=.ref p∧H p=some (.tup xs)∧xs[0]?=some (.int (kindOf x))∧aaD S H x xs:=by
 cases x with
 | num lo hi=>obtain⟨p,rfl,h'⟩:=Dv.m8 (ns:=[0,(lo:Int),(hi:Int)]) h;exact⟨p,_,rfl,h',rfl,rfl⟩
 | text m=>obtain⟨p,rfl,h'⟩:=Dv.m8 (ns:=[1,(m:Int)]) h;exact⟨p,_,rfl,h',rfl,rfl⟩
 | list o lo hi=>obtain⟨p,rfl,h'⟩:=Dv.m8 (ns:=[2,(o:Int),(lo:Int),(hi:Int)]) h;exact⟨p,_,rfl,h',rfl,rfl⟩
 | record fs=>
   obtain⟨p,xs,rfl,h,hx⟩:=Dv.tupI h
   obtain⟨v,us,rfl,h1,hx⟩:=hx.fB
   obtain⟨v2,us,rfl,h2,hx⟩:=hx.fB
   obtain rfl:=hx.xK
   obtain rfl:=h1.z5
   obtain⟨a,ys,rfl,ha,hy⟩:=h2.tupI
   exact⟨p,_,rfl,h,rfl,a,ys,rfl,ha,hy⟩
 | choice fs=>
   obtain⟨p,xs,rfl,h,hx⟩:=Dv.tupI h
   obtain⟨v,us,rfl,h1,hx⟩:=hx.fB
   obtain⟨v2,us,rfl,h2,hx⟩:=hx.fB
   obtain rfl:=hx.xK
   obtain rfl:=h1.z5
   obtain⟨a,ys,rfl,ha,hy⟩:=h2.tupI
   exact⟨p,_,rfl,h,rfl,a,ys,rfl,ha,hy⟩
def Tp (x:cp):List Int:=(pb x).map fun(n:Nat)=>(n:Int)
theorem Ze {S:Addr→Prop}{H:Hp}{Q:VK} (k:New S H (.l []) Q):∀ p,H p=none→Q (.ref p) (upd H p (.lst [])):=fun p hp=>k _ _ (bg.new hp) (.lst (.inr hp) aE .nil)
theorem ab1 {S:Addr→Prop}{H:Hp}{Q:VK}{v:V}{d:D} (k:New S H (.l [d]) Q) (h:Dv S H v d):∀ p,H p=none→Q (.ref p) (upd H p (.lst [v])):=fun p hp=>
 k _ _ (bg.new hp) (.lst (.inr hp) aE (.cons ((h.sub H0).keep (Kp.new hp)) .nil))
def yn:Sp:=fun vs H Q _=>Ex3 fun(S:Addr→Prop) (v:V) (x:cp)=>vs=[v]∧Dv S H v (kM x)∧(pb x).length≤30000∧New S H (.l ((Tp x).map D.i)) Q
theorem yK (T:Txt K mg t):cI P w K mg base CX0 1 t.d8 t.fN ["form"] yn:=by
 refine T.fX.ok fb (fun vs H Q E h=>by obtain⟨_,_,_,e,_⟩:=h;subst e;rfl) (fun cdv A outer s H vs Q E hr h=>?_)
 obtain⟨S,v,x,rfl,hv,hz,k⟩:=h
 obtain⟨p,xs,rfl,hp,h0,hx⟩:=ud hv
 refine⟨_,(ak (b9 (bo fe (a9 aY (pv 0) aH (fun _ _=>rfl)) (bz rfl T.lX T.lU) (bL _)) (aA (a6 (bX (ah (a9 aY (pv 0) aH (fun _ _=>rfl)) aq)))) bp)
  (ak (b9 (bo fe (a9 aY (pv 0) aH (fun _ _=>rfl)) (bz rfl T.jz T.jx) (bL _)) (aA (a6 (rE (own:=[("field",1)]) rfl fb.nd (sQ (a9 aY (pv 0) aH (fun _ _=>rfl))) (show lp mz (aL fK) _ _ from⟨rfl,by decide +kernel,by decide +kernel,by decide +kernel,by decide +kernel⟩) (fun _ _ _ _ _=>(cg (i:=1) fb.nd rfl (ba rfl))) (fun _ _ _ _ _=>iA) (fun _ _ _ _ _=>(a9 (r:=tR K) aY (pv 1) aH (fun _ _=>rfl)))))) bp)
  (ak (b9 (bo fe (a9 aY (pv 0) aH (fun _ _=>rfl)) (bz rfl T.tI T.tE) (bL _)) (aA (a6 (rE (own:=[("one",2)]) rfl fb.nd (sQ (a9 aY (pv 0) aH (fun _ _=>rfl))) (show lp mz (aL fK) _ _ from⟨rfl,by decide +kernel,by decide +kernel,by decide +kernel,by decide +kernel⟩) (fun _ _ _ _ _=>(cg (i:=2) fb.nd rfl (ba rfl))) (fun _ _ _ _ _=>iA) (fun _ _ _ _ _=>(a9 (r:=tR K) aY (pv 2) aH (fun _ _=>rfl)))))) bp)
  (aA (a6 (bX aq)))))),?_⟩
 refine⟨_,rfl,p,xs,0,_,rfl,rfl,SqT.of hp,aF (j:=0) h0,rfl,_,rfl,qx (fun h=>?_) (fun h=>?_)⟩
 ·have h:=of_decide_eq_true h
  cases x with
  | list o lo hi=>
    have hx:xs=[.int 2,.int o,.int lo,.int hi]:=hx
    subst hx
    refine⟨_,rfl,p,_,_,_,rfl,rfl,SqT.of hp,aF (j:=1) rfl,(by show 1≤sizeLine;decide),ab1 k (.int _)⟩
  | num lo hi=>exact absurd h (by simp[kindOf])
  | text m=>exact absurd h (by simp[kindOf])
  | record fs=>exact absurd h (by simp[kindOf])
  | choice fs=>exact absurd h (by simp[kindOf])
 refine⟨_,rfl,p,xs,0,_,rfl,rfl,SqT.of hp,aF (j:=0) h0,rfl,_,rfl,qx (fun h=>?_) (fun h=>?_)⟩
 ·have h:=of_decide_eq_true h
  cases x with
  | record fs=>
    obtain⟨a,ys,rfl,ha,hy⟩:=hx
    have hz:(fs.map fun f=>f.of_).length≤30000:=hz
    rw[ae] at hz
    have e:Tp (.record fs)=fs.map fun f=>(f.of_:Int):=by
     unfold Tp pb
     rw[bt]
     rfl
    rw[e] at k
    dsimp only[LW]
    exact wN (S:=S) (ls:=fs) (f:=fun f=>[(kF f).1,(kF f).2.1,(kF f).2.2]) (c:=fun f=>(f.of_:Int)) k (fun R h=>⟨_,rfl,p,_,_,_,rfl,rfl,SqT.of hp,aF (j:=1) rfl,a,rfl,⟨_,SqT.of ha⟩,h⟩) (Walks.tup (SqT.of ha)) hy (small _ (by omega)) (fun _=>rfl) (show 1 < 3 by decide) rfl (fun _=>rfl)
  | num lo hi=>exact absurd h (by simp[kindOf])
  | text m=>exact absurd h (by simp[kindOf])
  | list o lo hi=>exact absurd h (by simp[kindOf])
  | choice fs=>exact absurd h (by simp[kindOf])
 refine⟨_,rfl,p,xs,0,_,rfl,rfl,SqT.of hp,aF (j:=0) h0,rfl,_,rfl,qx (fun h=>?_) (fun h=>?_)⟩
 ·have h:=of_decide_eq_true h
  cases x with
  | choice fs=>
    obtain⟨a,ys,rfl,ha,hy⟩:=hx
    have hz:(fs.map fun f=>f.of_).length≤30000:=hz
    rw[ae] at hz
    have e:Tp (.choice fs)=fs.map fun f=>(f.of_:Int):=by
     unfold Tp pb
     rw[bt]
     rfl
    rw[e] at k
    dsimp only[LW]
    exact wN (S:=S) (ls:=fs) (f:=fun f=>[(Jd f).1,(Jd f).2]) (c:=fun f=>(f.of_:Int)) k (fun R h=>⟨_,rfl,p,_,_,_,rfl,rfl,SqT.of hp,aF (j:=1) rfl,a,rfl,⟨_,SqT.of ha⟩,h⟩) (Walks.tup (SqT.of ha)) hy (small _ (by omega)) (fun _=>rfl) (show 2 < 3 by decide) rfl (fun _=>rfl)
  | num lo hi=>exact absurd h (by simp[kindOf])
  | text m=>exact absurd h (by simp[kindOf])
  | list o lo hi=>exact absurd h (by simp[kindOf])
  | record fs=>exact absurd h (by simp[kindOf])
 ·refine⟨aT _,?_⟩
  cases x with
  | num lo hi=>exact Ze k
  | text m=>exact Ze k
  | list o lo hi=>exact absurd rfl (by assumption)
  | record fs=>exact absurd rfl (by assumption)
  | choice fs=>exact absurd rfl (by assumption)
end
end U
namespace U
open PySem PySem.Spec PyProof.Rows L2
open PySem.W (Codec)
open KpTop (tri duo fieldOf altOf)
section
variable {P:Program}{w:World}{K:ai}{mg:Str→Option Value}{base:Heap}{t:Adr}
def w8 (H:Hp) (l:Addr) (b:ax):Prop:=∃ vs,H l=some (.lst vs)∧bh no H vs (b.map kM)
structure cH (t:Adr) (H:Hp) (f l:Addr) (b:ax):Prop where
 obj:∃ dx,H f=some (.ins t.cX dx [("told",.ref l)])
 book:w8 H l b
theorem w8.keep {H H':Hp}{l:Addr}{b:ax} (F:w8 H l b) (k:∀ a o,H a=some o→a=l∨(∃ xs,o=.tup xs)→H' a=some o):w8 H' l b:=by
 obtain⟨vs,h2,h3⟩:=F
 exact⟨vs,k _ _ h2 (.inl rfl),h3.keep fun a o e i=>k a o e (i.elim dF .inr)⟩
theorem cH.keep {t:Adr}{H H':Hp}{f l:Addr}{b:ax} (F:cH t H f l b) (k:∀ a o,H a=some o→a=f∨a=l∨(∃ xs,o=.tup xs)→H' a=some o):cH t H' f l b:=by
 obtain⟨⟨dx,h1⟩,hb⟩:=F
 exact⟨⟨dx,k _ _ h1 (.inl rfl)⟩,hb.keep fun a o e i=>k a o e (.inr i)⟩
theorem cH.same {t:Adr}{H H':Hp}{f l:Addr}{b:ax} (F:cH t H f l b) (s:bg H H'):cH t H' f l b:=F.keep fun a o e _=>s a o e
def Told (t:Adr) (H:Hp) (f l:Addr) (b:ax) (good:Bool) (x:cp) (Q:VK):Prop:=
 ∀ H' b' v,qQ b good x=(some b',qO v)→cH t H' f l b'→Ext [l] H H'→Q (.int v) H'
theorem Told.bad {t:Adr}{H:Hp}{f l:Addr}{b:ax}{x:cp}{Q:VK} (F:cH t H f l b) (k:Told t H f l b false x Q) {H':Hp} (s:bg H H'):Q (.int (-22)) H':=
 k H' b (-22) rfl (F.same s) (Ext.of_same s)
theorem Told.full {t:Adr}{H:Hp}{f l:Addr}{b:ax}{x:cp}{Q:VK} (F:cH t H f l b) (k:Told t H f l b true x Q) {H':Hp} (s:bg H H') (h:16≤b.length):Q (.int (-28)) H':=
 k H' b (-28) (by unfold qQ;rw[if_neg (by decide),if_pos (show vZ≤b.length from h)]) (F.same s) (Ext.of_same s)
theorem Told.more {t:Adr}{H:Hp}{f l:Addr}{b:ax}{x:cp}{Q:VK} (k:Told t H f l b true x Q) {H':Hp} (s:Ext [l] H H') (h:b.length < 16) (F:cH t H' f l (b++[x])):Q (.int b.length) H':=
 k H' (b++[x]) b.length (by unfold qQ;rw[if_neg (by decide),if_neg (show ¬ vZ≤b.length from by show ¬ 16≤b.length;omega)]) F s
theorem Told.new {t:Adr}{H H1:Hp}{f l:Addr}{b:ax}{g:Bool}{x:cp}{Q:VK} (k:Told t H f l b g x Q) (s:bg H H1):Told t H1 f l b g x Q:=
 fun H' b' v e F h=>k H' b' v e F ((Ext.of_same s).trans h)
def JM (t:Adr):Sp:=fun vs H Q _=>Ex5 fun(f l:Addr) (b:ax) (x:cp) (v:V)=>vs=[.ref f,v]∧cH t H f l b∧Dv no H v (kM x)∧Told t H f l b true x Q
theorem mH (T:Txt K mg t):cI P w K mg base CX0 1 t.lS t.ow ["self","form"] (JM t):=by
 refine T.oN.ok JT (fun vs H Q E h=>by obtain⟨_,_,_,_,_,e,_⟩:=h;subst e;rfl) (fun cdv A outer s H vs Q E hr h=>?_)
 obtain⟨f,l,b,x,v,rfl,F,hx,k⟩:=h
 obtain⟨⟨dx,hf⟩,vs,hl,hb⟩:=id F
 refine⟨_,(ak (b9 (bo WK (dH cj (by rfl) T.nO cb (ah (bI (pv 0) rfl) aq)) (bz rfl T.Nv T.Nj) (bL _)) (aA (a6 (bz rfl T.S0 T.SV))) bp)
  (ak (cw (l5 aW bB bA d5 (bI (pv 0) rfl) (ah (pv 1) aq)))
  (aA (a6 (i4 HN (dH cj (by rfl) T.nO cb (ah (bI (pv 0) rfl) aq)) aH))))),?_⟩
 have hlen:vs.length=b.length:=by rw[hb.len,ae]
 refine⟨_,rfl,f,_,dx,_,_,rfl,hf,T.dA,T.e8,rfl,l,_,rfl,.inl (SqL.of hl),_,_,rfl,rfl,_,rfl,qx (fun h=>?_) (fun h=>?_)⟩
 ·have h:(16:Int)≤vs.length:=of_decide_eq_true h
  exact k.full F (bg.refl _) (by omega)
 ·have h:¬ (16:Int)≤vs.length:=fun z=>h (decide_eq_true z)
  have nf:f≠l:=cu hf hl (by intro z;cases z)
  refine⟨_,rfl,f,_,dx,_,_,rfl,hf,T.dA,T.e8,rfl,.inl ⟨rfl,_,SqL.of hl⟩,_,rfl,l,_,_,rfl,rfl,hl,kP (show vs.length≤16 by omega) (by decide),?_⟩
  have hf2:upd H l (.lst (vs++[v])) f=some (.ins t.cX dx [("told",.ref l)]):=by rw[aN nf];exact hf
  refine⟨_,rfl,f,_,dx,_,_,rfl,hf2,T.dA,T.e8,rfl,l,_,rfl,.inl (SqL.of aE),_,_,rfl,rfl,?_⟩
  have kT:Kp no H (upd H l (.lst (vs++[v]))):=Kp.put hl (fun _ z=>by cases z) id
  have e:((vs++[v]).length:Int) - 1=b.length:=by rw[au,bD];omega
  show Q (.int (((vs++[v]).length:Int) - 1)) _
  rw[e]
  refine k.more (Ext.put (by simp)) (by omega) ⟨⟨dx,hf2⟩,_,aE,?_⟩
  rw[aJ]
  exact(hb.keep kT).append (.cons (hx.keep kT) .nil)
def JN (t:Adr):Sp:=fun vs H Q _=>Ex2 fun(f dx:Addr)=>vs=[.ref f]∧H f=some (.ins t.cX dx [])∧∀ H' l,cH t H' f l []→H l=none→Ext [f] H H'→Q .non H'
theorem J8 (T:Txt K mg t):cI P w K mg base CX0 1 t.lT t.ox ["self"] (JN t):=by
 refine T.sj.ok JU (fun vs H Q E h=>by obtain⟨_,_,e,_⟩:=h;subst e;rfl) (fun cdv A outer s H vs Q E hr h=>?_)
 obtain⟨f,dx,rfl,hf,k⟩:=h
 refine⟨_,(aA (gm (pv 0) (bX aq) rfl)),?_⟩
 refine⟨aT _,fun l hl=>?_⟩
 have nf:f≠l:=bf hf hl
 refine⟨_,rfl,f,_,dx,_,rfl,(bg.new hl) _ _ hf,T.dA,T.e8,(by show 0 < 1000;decide),?_⟩
 refine k _ l ⟨⟨dx,aE⟩,[],by rw[aN (br nf),aE],.nil⟩ hl ?_
 exact(Ext.new hl).trans (Ext.put (by simp))
def Hr (t:Adr):Sp:=fun vs H Q _=>Ex3 fun(f l:Addr) (b:ax)=>vs=[.ref f]∧cH t H f l b∧∀ H' l',cH t H' f l' []→H l'=none→Ext [f] H H'→Q (.int 0) H'
theorem HZ (T:Txt K mg t):cI P w K mg base CX0 1 t.kz t.mR ["self"] (Hr t):=by
 refine T.mV.ok Hv (fun vs H Q E h=>by obtain⟨_,_,_,e,_⟩:=h;subst e;rfl) (fun cdv A outer s H vs Q E hr h=>?_)
 obtain⟨f,l0,b,rfl,⟨⟨dx,hf⟩,_⟩,k⟩:=h
 refine⟨_,(ak (gm (pv 0) (bX aq) rfl)
  (aA (a6 aH))),?_⟩
 refine⟨aT _,fun l hl=>?_⟩
 have nf:f≠l:=bf hf hl
 refine⟨_,rfl,f,_,dx,_,rfl,(bg.new hl) _ _ hf,T.dA,T.e8,(by show 1 < 1000;decide),?_⟩
 refine k _ l ⟨⟨dx,aE⟩,[],by rw[aN (br nf),aE],.nil⟩ hl ?_
 exact(Ext.new hl).trans (Ext.put (by simp))
def Ck (t:Adr):Sp:=fun vs H Q _=>Ex4 fun(f l:Addr) (b:ax) (n:Nat)=>vs=[.ref f,.int n]∧cH t H f l b∧Q (.bl (decide (n < b.length))) H
theorem t9 (T:Txt K mg t):cI P w K mg base CX0 1 t.gE t.jw ["self","number"] (Ck t):=by
 refine T.jE.ok Cs (fun vs H Q E h=>by obtain⟨_,_,_,_,e,_⟩:=h;subst e;rfl) (fun cdv A outer s H vs Q E hr h=>?_)
 obtain⟨f,l,b,n,rfl,⟨⟨dx,hf⟩,vs,hl,hb⟩,k⟩:=h
 refine⟨_,(aA (a6 (Mu Ff (pv 1) (dH cj (by rfl) T.nO cb (ah (bI (pv 0) rfl) aq)) (bL _)))),?_⟩
 have hlen:vs.length=b.length:=by rw[hb.len,ae]
 refine⟨_,rfl,_,rfl,f,_,dx,_,_,rfl,hf,T.dA,T.e8,rfl,l,_,rfl,.inl (SqL.of hl),_,_,rfl,rfl,?_⟩
 show Q (.bl (decide ((n:Int) < (vs.length:Int)))) H
 rw[show decide ((n:Int) < (vs.length:Int))=decide (n < b.length) from by rw[hlen];simp]
 exact k
def rV (t:Adr):Sp:=fun vs H Q _=>Ex3 fun(f l:Addr) (b:ax)=>vs=[.ref f]∧cH t H f l b∧(∀ x∈b,(pb x).length≤30000)∧∀ H',bg H H'→Q (.bl (cM b)) H'
theorem r6 (T:Txt K mg t):cI P w K mg base CX0 2 t.cQ t.de ["self"] (rV t):=by
 refine T.dg.ok gj (fun vs H Q E h=>by obtain⟨_,_,_,e,_⟩:=h;subst e;rfl) (fun cdv A outer s H vs Q E hr h=>?_)
 obtain⟨f,l,b,rfl,F,hz,k⟩:=h
 obtain⟨⟨dx,hf⟩,vs,hl,hb⟩:=id F
 refine⟨_,(ak (iW PassesOwn.never rfl (eY (bI (pv 0) rfl)) (cg (i:=1) gj.nd rfl (ba rfl)) (aA (iW PassesOwn.never rfl (eY (bG (yK T) (hr.mono (by decide)) rfl T.Ai T.fX.kp T.Ao .nil bw (ah (pv 1) aq))) (cg (i:=2) gj.nd rfl (ba rfl)) (aA (b9 (Bp (uE (cn (pv 0) T.dA T.vP (t9 T) (hr.mono (by decide)) T.vX .nil bw (ah (pv 2) aq)))) (aA (a6 xq)) bp)))))
  (aA (a6 xq))),?_⟩
 have hlen:vs.length=b.length:=by rw[hb.len,ae]
 refine⟨_,rfl,f,_,dx,_,_,rfl,hf,T.dA,T.e8,rfl,l,rfl,⟨_,SqL.of hl⟩,?_⟩
 refine mI (K:=K) (a:=l) (xs:=vs) (fun i σ H'=>bg H H'∧(∃ v u,σ=[some (.ref f),v,u])∧∀ x∈b.take i,∀ n∈pb x,n < b.length) ⟨bg.refl _,⟨_,_,rfl⟩,by simp⟩ (fun i σ H' _ h=>SqL.of (h.1 _ _ hl)) ?_ ?_
 ·rintro i y σ H1 hi ⟨s1,⟨v,u,rfl⟩,hj⟩
  obtain⟨d,hd,hy⟩:=hb.get hi
  obtain⟨x,hx,rfl⟩:=cx hd
  have hxb:x∈b:=a7 hx
  refine⟨_,rfl,no,y,x,rfl,hy.keep (Kp.of_same s1),hz x hxb,fun v2 H2 s2 hv2=>?_⟩
  obtain⟨p,rfl,_,hp⟩:=Dv.lint hv2
  refine⟨p,rfl,⟨_,SqL.of hp⟩,?_⟩
  have F2:=F.same (s1.trans s2)
  obtain⟨⟨dx2,hf2⟩,_⟩:=id F2
  refine MY (K:=K) (fun n=>decide (n < (b.length:Int))) (SqL.of hp) (fun v n N hn hf ht=>?_) (fun hA v=>?_) ⟨u,rfl⟩
  ·obtain⟨m,hm,rfl⟩:=ay.mp hn
   refine⟨_,rfl,f,dx2,_,rfl,hf2,rfl,_,rfl,f,l,b,m,rfl,F2,_,rfl,qx (fun h=>?_) (fun h=>?_)⟩
   ·have h:¬ m < b.length:=by simpa using h
    have:cM b=false:=by
     unfold cM
     rw[List.all_eq_false]
     refine⟨x,hxb,fun z=>?_⟩
     exact h (of_decide_eq_true (bQ.mp z m hm))
    rw[this] at k
    exact k _ (s1.trans s2)
   ·have h:m < b.length:=by simpa using h
    exact ht (decide_eq_true (by omega)) _ rfl
  ·refine⟨s1.trans s2,⟨_,_,rfl⟩,fun z hz n hn=>?_⟩
   rw[cV hx] at hz
   rcases az.mp hz with q | q
   ·exact hj z q n hn
   ·have:z=x:=by simpa using q
    subst this
    have:=of_decide_eq_true (bQ.mp hA (n:Int) (ay.mpr ⟨n,hn,rfl⟩))
    omega
 ·rintro σ H1 ⟨s1,⟨v,u,rfl⟩,hj⟩
  rw[hlen,cz] at hj
  have:cM b=true:=by
   unfold cM
   exact bQ.mpr fun x hx=>bQ.mpr fun n hn=>decide_eq_true (hj x hx n hn)
  rw[this] at k
  exact k _ s1
def Cj (t:Adr):Sp:=fun vs H Q _=>Ex5 fun(f l:Addr) (b:ax) (lo hi:Nat)=>vs=[.ref f,.int lo,.int hi]∧cH t H f l b∧Told t H f l b (decide (lo≤hi)) (.num lo hi) Q
theorem CL (T:Txt K mg t):cI P w K mg base CX0 2 t.gD t.jv ["self","lo","hi"] (Cj t):=by
 refine T.jD.ok Cr (fun vs H Q E h=>by obtain⟨_,_,_,_,_,e,_⟩:=h;subst e;rfl) (fun cdv A outer s H vs Q E hr h=>?_)
 obtain⟨f,l,b,lo,hi,rfl,F,k⟩:=h
 obtain⟨⟨dx,hf⟩,_⟩:=id F
 refine⟨_,(ak (b9 (bo ve (pv 1) (pv 2) (bL _)) (aA (a6 (bz rfl T.j0 T.jZ))) bp)
  (aA (a6 (cn (pv 0) T.dA T.oF (mH T) (hr.mono (by decide)) T.oQ .nil bw (ah (dG (ah (bz rfl T.qG T.qF) (ah (pv 1) (ah (pv 2) aq)))) aq))))),?_⟩
 refine⟨_,rfl,_,rfl,_,_,rfl,rfl,_,rfl,qx (fun h=>?_) (fun h=>?_)⟩
 ·have h:(hi:Int) < lo:=of_decide_eq_true h
  rw[decide_eq_false (by omega)] at k
  exact k.bad F (bg.refl _)
 ·have h:¬ (hi:Int) < lo:=fun z=>h (decide_eq_true z)
  rw[decide_eq_true (by omega)] at k
  refine⟨_,rfl,f,dx,_,rfl,hf,rfl,_,rfl,_,rfl,(by show 3≤sizeLine;decide),fun p hp=>?_⟩
  have s2:=bg.new (o:=.tup [.int 0,.int lo,.int hi]) hp
  exact⟨f,l,b,.num lo hi,.ref p,rfl,F.same s2,.tup aE (bh.ints [0,(lo:Int),(hi:Int)]),k.new s2⟩
def Ba (t:Adr):Sp:=fun vs H Q _=>Ex4 fun(f l:Addr) (b:ax) (m:Nat)=>vs=[.ref f,.int m]∧cH t H f l b∧Told t H f l b (decide (m≤100)) (.text m) Q
theorem Bv (T:Txt K mg t):cI P w K mg base CX0 2 t.fz t.iJ ["self","most"] (Ba t):=by
 refine T.iS.ok Be (fun vs H Q E h=>by obtain⟨_,_,_,_,e,_⟩:=h;subst e;rfl) (fun cdv A outer s H vs Q E hr h=>?_)
 obtain⟨f,l,b,m,rfl,F,k⟩:=h
 obtain⟨⟨dx,hf⟩,_⟩:=id F
 refine⟨_,(ak (b9 (bo ve (pv 1) (bz rfl T.Nw T.Nk) (bL _)) (aA (a6 (bz rfl T.j0 T.jZ))) bp)
  (aA (a6 (cn (pv 0) T.dA T.oF (mH T) (hr.mono (by decide)) T.oQ .nil bw (ah (dG (ah (bz rfl T.oG T.oB) (ah (pv 1) aq))) aq))))),?_⟩
 refine⟨_,rfl,_,_,rfl,rfl,_,rfl,qx (fun h=>?_) (fun h=>?_)⟩
 ·have h:(100:Int) < m:=of_decide_eq_true h
  rw[decide_eq_false (by omega)] at k
  exact k.bad F (bg.refl _)
 ·have h:¬ (100:Int) < m:=fun z=>h (decide_eq_true z)
  rw[decide_eq_true (by omega)] at k
  refine⟨_,rfl,f,dx,_,rfl,hf,rfl,_,rfl,(by show 2≤sizeLine;decide),fun p hp=>?_⟩
  have s2:=bg.new (o:=.tup [.int 1,.int m]) hp
  exact⟨f,l,b,.text m,.ref p,rfl,F.same s2,.tup aE (bh.ints [1,(m:Int)]),k.new s2⟩
def Bb (t:Adr):Sp:=fun vs H Q _=>Ex6 fun(f l:Addr) (b:ax) (o lo hi:Nat)=>vs=[.ref f,.int o,.int lo,.int hi]∧cH t H f l b∧Told t H f l b (decide (o < 16) && (decide (lo≤hi) && decide (hi≤32))) (.list o lo hi) Q
theorem Bw (T:Txt K mg t):cI P w K mg base CX0 2 t.fA t.iK ["self","of","lo","hi"] (Bb t):=by
 refine T.iT.ok Bf (fun vs H Q E h=>by obtain⟨_,_,_,_,_,_,e,_⟩:=h;subst e;rfl) (fun cdv A outer s H vs Q E hr h=>?_)
 obtain⟨f,l,b,o,lo,hi,rfl,F,k⟩:=h
 obtain⟨⟨dx,hf⟩,_⟩:=id F
 refine⟨_,(ak (b9 (PW.pt (N9 (Bp (uE (bG (yL T) (hr.mono (by decide)) rfl T.AO T.kD.kp T.AQ .nil bw (ah (pv 1) aq)))) (N9 (bo ve (pv 2) (pv 3) (bL _)) (Ms (bo ve (pv 3) (bz rfl T.Js T.Jk) (bL _)))))) (aA (a6 (bz rfl T.j0 T.jZ))) bp)
  (aA (a6 (cn (pv 0) T.dA T.oF (mH T) (hr.mono (by decide)) T.oQ .nil bw (ah (dG (ah (bz rfl T.lX T.lU) (ah (pv 1) (ah (pv 2) (ah (pv 3) aq))))) aq))))),?_⟩
 refine⟨_,rfl,o,rfl,_,rfl,qx (fun h=>?_) (fun h=>?_)⟩
 ·have h:¬ (o:Int)≤15:=by simpa using h
  rw[decide_eq_false (show ¬ o < 16 by omega),mE] at k
  exact uL (k.bad F (bg.refl _))
 have h:(o:Int)≤15:=by simpa using h
 rw[decide_eq_true (show o < 16 by omega),rT] at k
 refine⟨_,rfl,_,rfl,_,_,rfl,rfl,_,rfl,qx (fun h=>?_) (fun h=>?_)⟩
 ·have h:(hi:Int) < lo:=of_decide_eq_true h
  rw[decide_eq_false (show ¬ lo≤hi by omega),mE] at k
  exact uL (k.bad F (bg.refl _))
 have h2:¬ (hi:Int) < lo:=fun z=>h (decide_eq_true z)
 rw[decide_eq_true (show lo≤hi by omega),rT] at k
 refine⟨_,rfl,_,_,rfl,rfl,_,rfl,qx (fun h=>?_) (fun h=>?_)⟩
 ·have h:(32:Int) < hi:=of_decide_eq_true h
  rw[decide_eq_false (show ¬ hi≤32 by omega)] at k
  exact k.bad F (bg.refl _)
 have h3:¬ (32:Int) < hi:=fun z=>h (decide_eq_true z)
 rw[decide_eq_true (show hi≤32 by omega)] at k
 refine⟨_,rfl,f,dx,_,rfl,hf,rfl,_,rfl,_,rfl,_,rfl,(by show 4≤sizeLine;decide),fun p hp=>?_⟩
 have s2:=bg.new (o:=.tup [.int 2,.int o,.int lo,.int hi]) hp
 exact⟨f,l,b,.list o lo hi,.ref p,rfl,F.same s2,.tup aE (bh.ints [2,(o:Int),(lo:Int),(hi:Int)]),k.new s2⟩
end
end U
namespace U
open PySem PySem.Spec PyProof.Rows L2
open PySem.W (Codec)
open KpTop (tri duo fieldOf altOf)
section
variable {P:Program}{w:World}{K:ai}{mg:Str→Option Value}{base:Heap}{t:Adr}
theorem K1:∀ fs:List b8,tQ fs=rise (fs.map fun f=>(f.name:Int))
 | []=>rfl
 | [_]=>rfl
 | x::y::r=>by
   have ih:=K1 (y::r)
   show(decide (x.name < y.name) && tQ (y::r))=(decide ((x.name:Int) < y.name) && rise ((y::r).map fun f=>(f.name:Int)))
   rw[ih]
   congr 1
   simp
theorem WW (fs:List b8):g9 fs=(De (fs.map fun f=>(f.name:Int)) && (fs.map fun f=>(f.of_:Int)).all (fun x=>decide (x≤15))):=by
 unfold g9 De
 rw[K1,ae,Bool.and_assoc,Bool.and_assoc]
 show(decide (fs.length≤8) && _)=_
 congr 1
 have:(fs.all fun x=>decide (x.name < 64) && decide (x.of_ < vZ))=((fs.map fun f=>(f.name:Int)).all (fun x=>decide (x≤63)) && (fs.map fun f=>(f.of_:Int)).all (fun x=>decide (x≤15))):=by
  rw[List.all_map,List.all_map]
  induction fs with
  | nil=>rfl
  | cons f fs ih=>
    rw[kS,kS,kS,ih]
    have e1:decide (f.name < 64)=decide ((f.name:Int)≤63):=by
     rw[decide_eq_decide]
     omega
    have e2:decide (f.of_ < vZ)=decide ((f.of_:Int)≤15):=by
     rw[decide_eq_decide]
     show f.of_ < 16↔_
     omega
    rw[e1,e2]
    show _=((decide ((f.name:Int)≤63) && _) && (decide ((f.of_:Int)≤15) && _))
    cases decide ((f.name:Int)≤63)<;>cases decide ((f.of_:Int)≤15)<;>simp
 rw[this]
 rw[Bool.and_comm (rise _),Bool.and_assoc]
theorem UM {qs:List (Int×Int×Int)} (h:∀ q∈qs,kF (fieldOf q)=q):good3 qs=g9 (qs.map fieldOf):=by
 rw[WW,bt,bt]
 unfold good3
 congr 2
 ·exact bF fun q hq=>(congrArg Prod.fst (h q hq)).symm
 ·exact bF fun q hq=>(congrArg (fun z=>z.2.2) (h q hq)).symm
theorem UN {qs:List (Int×Int)} (h:∀ q∈qs,Jd (altOf q)=q):good2 qs=(g9 (qs.map altOf) && decide (1≤(qs.map altOf).length)):=by
 rw[WW,bt,bt,ae,Bool.and_comm]
 unfold good2
 congr 1
 ·rw[decide_eq_decide]
  omega
 ·congr 2
  ·exact bF fun q hq=>(congrArg Prod.fst (h q hq)).symm
  ·exact bF fun q hq=>(congrArg Prod.snd (h q hq)).symm
theorem Di {α:Type}{S S':Addr→Prop}{H:Hp}{f:α→List Int}:∀ (qs:List α) {xs:List V},bh S H xs (qs.map fun q=>.t ((f q).map D.i))→bh S' H xs (qs.map fun q=>.t ((f q).map D.i))
 | [],_,.nil=>.nil
 | q::qs,_,.cons h a=>by
   obtain⟨p,rfl,hp⟩:=Dv.m8 h
   exact .cons (.tup hp (bh.ints _)) (Di qs a)
def yu (K:ai) (t:Adr):Sp:=fun vs H Q _=>Ex5 fun(f l:Addr) (b:ax) (a:Addr) (ns:List Int)=>vs=[.ref f,.ref a]∧cH t H f l b∧SqL K H a (ns.map V.int)∧ns.length % 3=0∧ns.length≤30000∧
 (∀ q∈tri ns,kF (fieldOf q)=q)∧Told t H f l b (g9 ((tri ns).map fieldOf)) (.record ((tri ns).map fieldOf)) Q
theorem yN (T:Txt K mg t):cI P w K mg base CX0 4 t.er t.fT ["self","row"] (yu K t):=by
 refine T.gb.ok qi (fun vs H Q E h=>by obtain⟨_,_,_,_,_,e,_⟩:=h;subst e;rfl) (fun cdv A outer s H vs Q E hr h=>?_)
 obtain⟨f,l,b,a,ns,rfl,F,hS,h3,hl,hq,k⟩:=h
 refine⟨_,(ak (bW (i:=2) qi.nd rfl (ba rfl) (bG (Mw T) (hr.mono (by decide)) rfl T.Pt T.qH.kp T.PB .nil bw (ah (pv 1) aq)))
  (ak (b9 (Bp (uE (bG (Bq T) (hr.mono (by decide)) rfl T.DF T.iN.kp T.DJ .nil bw (ah (pv 2) aq)))) (aA (a6 (bz rfl T.j0 T.jZ))) bp)
  (aA (a6 (cn (pv 0) T.dA T.oF (mH T) (hr.mono (by decide)) T.oQ .nil bw (ah (dG (ah (bz rfl T.jz T.jx) (ah (vb AJ (by rfl) T.RK (by rfl) (ah (pv 2) aq)) aq))) aq)))))),?_⟩
 have hlt:=LV ns
 refine⟨_,rfl,no,a,ns,rfl,hS,h3,hl,fun v H1 s1 hv=>?_⟩
 refine⟨_,rfl,_,v,tri ns,rfl,hv,by omega,fun H2 s2=>⟨_,rfl,?_⟩⟩
 have F2:=F.same (s1.trans s2)
 have k2:=k.new (s1.trans s2)
 rw[← UM hq] at k2
 refine qx (fun h=>?_) (fun h=>?_)
 ·have h:good3 (tri ns)=false:=by simpa using h
  rw[h] at k2
  exact k2.bad F2 (bg.refl _)
 ·have h:good3 (tri ns)=true:=by simpa using h
  rw[h] at k2
  obtain⟨⟨dx,hf⟩,_⟩:=id F2
  obtain⟨p,xs,rfl,hp,hpl,hx⟩:=(hv.keep (Kp.of_same s2)).wM
  refine⟨_,rfl,f,dx,_,rfl,hf,rfl,_,rfl,p,xs,rfl,.inl ⟨SqL.of hpl,fun r hr=>⟨(by show 2≤sizeLine;decide),fun q hq2=>?_⟩⟩⟩
  have s3:=bg.new (o:=.tup xs) hr
  have s4:=bg.new (o:=.tup [.int 3,.ref r]) hq2
  refine⟨f,l,b,.record ((tri ns).map fieldOf),.ref q,rfl,F2.same (s3.trans s4),.tup aE (.cons (.int 3) (.cons (.tup (s4 _ _ aE) ?_) .nil)),k2.new (s3.trans s4)⟩
  have e:(((tri ns).map fieldOf).map fun f=>NM (kF f))=(tri ns).map NM:=by
   rw[bt]
   exact bF fun q h=>by show NM (kF (fieldOf q))=_;rw[hq q h]
  rw[e]
  exact Di (f:=fun(q:Int×Int×Int)=>[q.1,q.2.1,q.2.2]) _ (hx.keep (Kp.of_same (s3.trans s4)))
def yw (K:ai) (t:Adr):Sp:=fun vs H Q _=>Ex5 fun(f l:Addr) (b:ax) (a:Addr) (ns:List Int)=>vs=[.ref f,.ref a]∧cH t H f l b∧SqL K H a (ns.map V.int)∧ns.length % 2=0∧ns.length≤30000∧
 (∀ q∈duo ns,Jd (altOf q)=q)∧Told t H f l b (g9 ((duo ns).map altOf) && decide (1≤((duo ns).map altOf).length)) (.choice ((duo ns).map altOf)) Q
theorem yO (T:Txt K mg t):cI P w K mg base CX0 4 t.et t.fU ["self","row"] (yw K t):=by
 refine T.gc.ok qo (fun vs H Q E h=>by obtain⟨_,_,_,_,_,e,_⟩:=h;subst e;rfl) (fun cdv A outer s H vs Q E hr h=>?_)
 obtain⟨f,l,b,a,ns,rfl,F,hS,h3,hl,hq,k⟩:=h
 refine⟨_,(ak (bW (i:=2) qo.nd rfl (ba rfl) (bG (J6 T) (hr.mono (by decide)) rfl T.Nr T.oJ.kp T.NA .nil bw (ah (pv 1) aq)))
  (ak (b9 (Bp (uE (bG (zQ T) (hr.mono (by decide)) rfl T.BR T.gT.kp T.BV .nil bw (ah (pv 2) aq)))) (aA (a6 (bz rfl T.j0 T.jZ))) bp)
  (aA (a6 (cn (pv 0) T.dA T.oF (mH T) (hr.mono (by decide)) T.oQ .nil bw (ah (dG (ah (bz rfl T.tI T.tE) (ah (vb AJ (by rfl) T.RK (by rfl) (ah (pv 2) aq)) aq))) aq)))))),?_⟩
 have hlt:=M3 ns
 refine⟨_,rfl,no,a,ns,rfl,hS,h3,hl,fun v H1 s1 hv=>?_⟩
 refine⟨_,rfl,_,v,duo ns,rfl,hv,by omega,fun H2 s2=>⟨_,rfl,?_⟩⟩
 have F2:=F.same (s1.trans s2)
 have k2:=k.new (s1.trans s2)
 rw[← UN hq] at k2
 refine qx (fun h=>?_) (fun h=>?_)
 ·have h:good2 (duo ns)=false:=by simpa using h
  rw[h] at k2
  exact k2.bad F2 (bg.refl _)
 ·have h:good2 (duo ns)=true:=by simpa using h
  rw[h] at k2
  obtain⟨⟨dx,hf⟩,_⟩:=id F2
  obtain⟨p,xs,rfl,hp,hpl,hx⟩:=(hv.keep (Kp.of_same s2)).wM
  refine⟨_,rfl,f,dx,_,rfl,hf,rfl,_,rfl,p,xs,rfl,.inl ⟨SqL.of hpl,fun r hr=>⟨(by show 2≤sizeLine;decide),fun q hq2=>?_⟩⟩⟩
  have s3:=bg.new (o:=.tup xs) hr
  have s4:=bg.new (o:=.tup [.int 4,.ref r]) hq2
  refine⟨f,l,b,.choice ((duo ns).map altOf),.ref q,rfl,F2.same (s3.trans s4),.tup aE (.cons (.int 4) (.cons (.tup (s4 _ _ aE) ?_) .nil)),k2.new (s3.trans s4)⟩
  have e:(((duo ns).map altOf).map fun f=>O5 (Jd f))=(duo ns).map O5:=by
   rw[bt]
   exact bF fun q h=>by show O5 (Jd (altOf q))=_;rw[hq q h]
  rw[e]
  exact Di (f:=fun(q:Int×Int)=>[q.1,q.2]) _ (hx.keep (Kp.of_same (s3.trans s4)))
end
end U
namespace U
open PySem PySem.Spec PyProof.Rows L2
open PySem.W (Codec)
open Ways
section
variable {P:Program}{w:World}{K:ai}{mg:Str→Option Value}{base:Heap}{t:Adr}
theorem nz {x y:Int}{A B:Prop} (h:x=y) (a:A):if decide (V.int x=V.int y)=true then A else B:=by
 rw[if_pos (decide_eq_true (by rw[h]))]
 exact a
theorem c5 {x y:Int}{A B:Prop} (h:x≠y) (b:B):if decide (V.int x=V.int y)=true then A else B:=by
 rw[if_neg (fun z=>h (by have:=of_decide_eq_true z;injection this))]
 exact b
def e9 (w:a3):D:=.t ([w.1,w.2].map D.i)
def nI (l:List Nat):List Int:=l.map fun(n:Nat)=>(n:Int)
def He (s:List Nat×a3):D:=.t [.l ((nI s.1).map D.i),e9 s.2]
def kQ (w:Way):D:=.t [.i w.own,.l ((nI w.head).map D.i),.l (w.steps.map He)]
def R1:Sp:=fun vs H Q _=>Ex2 fun(S:Addr→Prop) (n:Nat)=>vs=[.int n]∧New S H (e9 (i9 n)) Q
theorem pI (T:Txt K mg t):cI P w K mg base CX0 1 t.vB t.yW ["number"] R1:=by
 refine T.lj.ok R3 (fun vs H Q E h=>by obtain⟨_,_,e,_⟩:=h;subst e;rfl) (fun cdv A outer s H vs Q E hr h=>?_)
 obtain⟨S,n,rfl,k⟩:=h
 refine⟨_,(aA (a6 (dG (ah (pv 0) (ah (bz rfl T.zo T.zl) aq))))),?_⟩
 exact⟨_,rfl,mkT (S:=S) (bh.ints [(n:Int),-1]) (show 2≤1000000 by decide) fun p1 s1 h1=>k _ _ s1 h1⟩
def P4:Sp:=fun vs H Q _=>Ex2 fun(S:Addr→Prop) (n:Nat)=>vs=[.int n]∧New S H (kQ (yP n)) Q
theorem HU (T:Txt K mg t):cI P w K mg base CX0 1 t.sy t.vD ["value"] P4:=by
 refine T.sD.ok P7 (fun vs H Q E h=>by obtain⟨_,_,e,_⟩:=h;subst e;rfl) (fun cdv A outer s H vs Q E hr h=>?_)
 obtain⟨S,n,rfl,k⟩:=h
 refine⟨_,(aA (a6 (dG (ah aH (ah (bX (ah (bz rfl T.qG T.qF) (ah (pv 0) aq))) (ah (bX aq) aq)))))),?_⟩
 refine⟨_,rfl,mkL (S:=S) (bh.ints [0,(n:Int)]) (show 2≤1000000 by decide) fun p1 s1 h1=>mkL (.nil) (aT _) fun p2 s2 h2=>mkT (.cons (.int 1) (.cons (h1.up s2) (.cons h2 .nil))) (show 3≤1000000 by decide) fun p3 s3 h3=>?_⟩
 exact((k.after s1).after s2) _ _ s3 h3
def NQ:Sp:=fun vs H Q _=>Ex2 fun(S:Addr→Prop) (n:Nat)=>vs=[.int n]∧n≤100000∧New S H (kQ (lF n)) Q
theorem Fg (T:Txt K mg t):cI P w K mg base CX0 1 t.pM t.tm ["size"] NQ:=by
 refine T.pO.ok NW (fun vs H Q E h=>by obtain⟨_,_,e,_⟩:=h;subst e;rfl) (fun cdv A outer s H vs Q E hr h=>?_)
 obtain⟨S,n,rfl,hn,k⟩:=h
 refine⟨_,(aA (a6 (dG (ah (i4 pF aH (pv 0)) (ah (i4 HR (bX (ah (bz rfl T.oG T.oB) (ah (pv 0) aq))) (i4 HP (bX (ah aH aq)) (pv 0))) (ah (bX aq) aq)))))),?_⟩
 refine⟨_,rfl,_,_,rfl,rfl,_,rfl,?_⟩
 refine mkL (S:=S) (bh.ints [1,(n:Int)]) (show 2≤1000000 by decide) fun p1 s1 h1=>?_
 refine mkL (S:=nw S H) (ds:=[.i 0]) (.cons (.int 0) .nil) (show 1≤1000000 by decide) fun p2 s2 h2=>?_
 refine⟨_,rfl,Ov h2 (by omega) fun H3 v3 s3 h3=>?_⟩
 refine T2 ((h1.up s2).up s3) h3 (by rw[aX];show 2+n≤_;omega) fun H4 v4 s4 h4=>mkL (.nil) (aT _) fun p5 s5 h5=>mkT (.cons (.int (1+(n:Int))) (.cons (h4.up s5) (.cons h5 .nil))) (show 3≤1000000 by decide) fun p6 s6 h6=>?_
 refine(((((k.after s1).after s2).after s3).after s4).after s5) _ _ s6 ?_
 have e:kQ (lF n)=.t [.i (1+(n:Int)),.l ([.i 1,.i (n:Int)]++aj n (.i 0)),.l []]:=by
  unfold kQ lF nI
  dsimp only
  rw[aJ,aJ,kH,kH,Int.natCast_add]
  rfl
 rw[e]
 exact h6
def NR:Sp:=fun vs H Q _=>Ex3 fun(S:Addr→Prop) (v:V) (ws:List a3)=>vs=[v]∧Dv S H v (.l (ws.map e9))∧ws.length≤100000∧New S H (kQ (eD ws)) Q
theorem t8 (T:Txt K mg t):cI P w K mg base CX0 1 t.pN t.tp ["wants"] NR:=by
 refine T.lh.ok yx (fun vs H Q E h=>by obtain⟨_,_,_,e,_⟩:=h;subst e;rfl) (fun cdv A outer s H vs Q E hr h=>?_)
 obtain⟨S,v,ws,rfl,hv,hn,k⟩:=h
 refine⟨_,(aA (a6 (dG (ah aH (ah (bX (ah (bz rfl T.lX T.lU) (ah (dH cj (by rfl) T.nO cb (ah (pv 0) aq)) aq))) (ah (rE (own:=[("want",1)]) rfl yx.nd (eY (pv 0)) (show lp Ij (aL wu) _ _ from⟨rfl,by decide +kernel,by decide +kernel,by decide +kernel,by decide +kernel⟩) (fun _ _ _ _ _=>(cg (i:=1) yx.nd rfl (ba rfl))) (fun _ _ _ _ _=>iA) (fun _ _ _ _ _=>(dG (ah (bX aq) (ah (pv 1) aq))))) aq)))))),?_⟩
 obtain⟨a,xs,rfl,hS,ha,hx⟩:=hv.wM
 have hl:xs.length=ws.length:=by rw[hx.len,ae]
 refine⟨_,rfl,a,_,rfl,.inl (SqL.of ha),mkL (S:=S) (bh.ints [2,(xs.length:Int)]) (show 2≤1000000 by decide) fun p1 s1 h1=>?_⟩
 have ha1:=s1 _ _ ha
 dsimp only[Ha,LX]
 refine uK (S:=nw S H) (ds:=ws.map fun w=>He ([],w)) (fun v2 H2 s2 h2=>mkT (.cons (.int 1) (.cons (h1.up s2) (.cons h2 .nil))) (show 3≤1000000 by decide) fun p3 s3 h3=>?_) (fun R h=>⟨_,rfl,a,rfl,⟨_,SqL.of ha1⟩,h⟩) (Walks.list (SqL.of ha1)) (by rw[hl,ae]) (by rw[hl];exact small _ (by omega)) ?_
 ·refine((k.after s1).after s2) _ _ s3 ?_
  have e:kQ (eD ws)=.t [.i 1,.l [.i 2,.i (xs.length:Int)],.l (ws.map fun w=>He ([],w))]:=by
   unfold kQ eD
   dsimp only
   rw[bt,hl]
   rfl
  rw[e]
  exact h3
 ·intro i v d H3 hv hd s3 Z W hZ
  obtain⟨w,hw,rfl⟩:=cx hd
  obtain⟨d2,hd2,hvd⟩:=(hx.up s1).get hv
  obtain⟨w',hw',rfl⟩:=cx hd2
  rw[hw] at hw'
  obtain rfl:=aa hw'
  refine⟨rfl,LU (mkL (S:=on (nw S H) _) .nil (aT _) fun p4 s4 h4=>⟨_,rfl,mkT (.cons h4 (.cons ((hvd.on' s3).up s4) .nil)) (show 2≤1000000 by decide) fun p5 s5 h5=>?_⟩)⟩
  exact hZ _ _ (s4.trans s5) (h5.sub (CM s4.non))
def Qj (x:Nat×a3):D:=.t [.i x.1,e9 x.2]
def JD:Sp:=fun vs H Q _=>Ex3 fun(S:Addr→Prop) (v:V) (ws:List (Nat×a3))=>vs=[v]∧Dv S H v (.l (ws.map Qj))∧ws.length≤100000∧New S H (kQ (kg ws)) Q
theorem Az (T:Txt K mg t):cI P w K mg base CX0 1 t.lK t.og ["named_wants"] JD:=by
 refine T.lY.ok pU (fun vs H Q E h=>by obtain⟨_,_,_,e,_⟩:=h;subst e;rfl) (fun cdv A outer s H vs Q E hr h=>?_)
 obtain⟨S,v,ws,rfl,hv,hn,k⟩:=h
 refine⟨_,(aA (a6 (dG (ah aH (ah (bX (ah (bz rfl T.jz T.jx) (ah (dH cj (by rfl) T.nO cb (ah (pv 0) aq)) aq))) (ah (rE (own:=[("name",1),("want",2)]) rfl pU.nd (eY (pv 0)) (show lp CT (aL rW) _ _ from⟨rfl,by decide +kernel,by decide +kernel,by decide +kernel,by decide +kernel⟩) (fun _ _ _ _ _=>(show PG _ _ (aac K 2 (UR (AG 1) (UR (AG 2) aad))) from Xv rfl (Oe (cg (i:=1) pU.nd rfl (ba rfl)) (Oe (cg (i:=2) pU.nd rfl (ba rfl)) VM)))) (fun _ _ _ _ _=>iA) (fun _ _ _ _ _=>(dG (ah (bX (ah (pv 1) aq)) (ah (pv 2) aq))))) aq)))))),?_⟩
 obtain⟨a,xs,rfl,hS,ha,hx⟩:=hv.wM
 have hl:xs.length=ws.length:=by rw[hx.len,ae]
 refine⟨_,rfl,a,_,rfl,.inl (SqL.of ha),mkL (S:=S) (bh.ints [3,(xs.length:Int)]) (show 2≤1000000 by decide) fun p1 s1 h1=>?_⟩
 have ha1:=s1 _ _ ha
 dsimp only[Ha,LX]
 refine uK (S:=nw S H) (ds:=ws.map fun x=>He ([x.1],x.2)) (fun v2 H2 s2 h2=>mkT (.cons (.int 1) (.cons (h1.up s2) (.cons h2 .nil))) (show 3≤1000000 by decide) fun p3 s3 h3=>?_) (fun R h=>⟨_,rfl,a,rfl,⟨_,SqL.of ha1⟩,h⟩) (Walks.list (SqL.of ha1)) (by rw[hl,ae]) (by rw[hl];exact small _ (by omega)) ?_
 ·refine((k.after s1).after s2) _ _ s3 ?_
  have e:kQ (kg ws)=.t [.i 1,.l [.i 3,.i (xs.length:Int)],.l (ws.map fun x=>He ([x.1],x.2))]:=by
   unfold kQ kg
   dsimp only
   rw[bt,hl]
   rfl
  rw[e]
  exact h3
 ·intro i v d H3 hv hd s3 Z W hZ
  obtain⟨w,hw,rfl⟩:=cx hd
  obtain⟨d2,hd2,hvd⟩:=(hx.up s1).get hv
  obtain⟨w',hw',rfl⟩:=cx hd2
  rw[hw] at hw'
  obtain rfl:=aa hw'
  obtain⟨b,ys,rfl,hb,hy⟩:=(hvd.on' s3).tupI
  obtain⟨y1,ys,rfl,hy1,hy⟩:=hy.fB
  obtain⟨y2,ys,rfl,hy2,hy⟩:=hy.fB
  obtain rfl:=hy.xK
  obtain rfl:=hy1.z5
  refine⟨b,_,rfl,SqT.of hb,rfl,_,_,rfl,_,_,rfl,rfl,?_⟩
  refine⟨rfl,LU ⟨_,rfl,mkL (S:=on (nw S H) _) (.cons (.int _) .nil) (show 1≤1000000 by decide) fun p4 s4 h4=>⟨_,rfl,mkT (.cons h4 (.cons (hy2.up s4) .nil)) (show 2≤1000000 by decide) fun p5 s5 h5=>?_⟩⟩⟩
  exact hZ _ _ (s4.trans s5) (h5.sub (CM s4.non))
def JH:Sp:=fun vs H Q _=>Ex4 fun(S:Addr→Prop) (n:Nat) (v:V) (w:a3)=>vs=[.int n,v]∧Dv S H v (e9 w)∧New S H (kQ (iw n w)) Q
theorem AA (T:Txt K mg t):cI P w K mg base CX0 1 t.lO t.oo ["name","want"] JH:=by
 refine T.lZ.ok JR (fun vs H Q E h=>by obtain⟨_,_,_,_,e,_⟩:=h;subst e;rfl) (fun cdv A outer s H vs Q E hr h=>?_)
 obtain⟨S,n,v,w,rfl,hv,k⟩:=h
 refine⟨_,(aA (a6 (dG (ah aH (ah (bX (ah (bz rfl T.tI T.tE) (ah (pv 0) aq))) (ah (bX (ah (dG (ah (bX aq) (ah (pv 1) aq))) aq)) aq)))))),?_⟩
 refine⟨_,rfl,mkL (S:=S) (bh.ints [4,(n:Int)]) (show 2≤1000000 by decide) fun p1 s1 h1=>mkL .nil (aT _) fun p2 s2 h2=>⟨_,rfl,mkT (.cons h2 (.cons ((hv.up s1).up s2) .nil)) (show 2≤1000000 by decide) fun p3 s3 h3=>?_⟩⟩
 refine mkL (.cons h3 .nil) (show 1≤1000000 by decide) fun p4 s4 h4=>mkT (.cons (.int 1) (.cons (((h1.up s2).up s3).up s4) (.cons h4 .nil))) (show 3≤1000000 by decide) fun p5 s5 h5=>?_
 exact((((k.after s1).after s2).after s3).after s4) _ _ s5 h5
def jL (f:b8):D:=NM (kF f)
def D8:Sp:=fun vs H Q _=>Ex3 fun(S:Addr→Prop) (v:V) (fs:List b8)=>vs=[v]∧Dv S H v (.t (fs.map jL))∧fs.length≤100000∧New S H (.l ((rb fs).map jL)) Q
theorem pG (T:Txt K mg t):cI P w K mg base CX0 1 t.ig t.jS ["fields"] D8:=by
 refine T.fG.ok pf (fun vs H Q E h=>by obtain⟨_,_,_,e,_⟩:=h;subst e;rfl) (fun cdv A outer s H vs Q E hr h=>?_)
 obtain⟨S,v,fs,rfl,hv,hn,k⟩:=h
 refine⟨_,(aA (a6 (rE (own:=[("field",1)]) rfl pf.nd (sQ (pv 0)) (show lp xt (aL mY) _ _ from⟨rfl,by decide +kernel,by decide +kernel,by decide +kernel,by decide +kernel⟩) (fun _ _ _ _ _=>(cg (i:=1) pf.nd rfl (ba rfl))) (fun _ _ _ _ _=>(Q8 (bo fe (a9 (r:=tR K) aY (pv 1) aH (fun _ _=>rfl)) aH (bL _)))) (fun _ _ _ _ _=>(pv 1))))),?_⟩
 obtain⟨a,xs,rfl,ha,hx⟩:=hv.tupI
 have hl:xs.length=fs.length:=by rw[hx.len,ae]
 dsimp only[LW]
 have e:(fs.map fun f=>if f.opt then none else some (jL f)).filterMap id=(rb fs).map jL:=by
  clear hv k hx hl hn
  induction fs with
  | nil=>rfl
  | cons f fs ih=>
    unfold rb at ih ⊢
    rw[aU,cF,ya]
    cases hf:f.opt with
    | true=>simpa [hf] using ih
    | false=>simp only[hf,ia,if_false,Bool.not_false,if_true,aU,id];rw[ih]
 refine Qu (S:=S) (os:=fs.map fun f=>if f.opt then none else some (jL f)) (by rw[e];exact k) (fun R h=>⟨_,rfl,a,rfl,⟨_,SqT.of ha⟩,h⟩) (Walks.tup (SqT.of ha)) (by rw[hl,ae]) (by rw[hl];exact small _ (by omega)) ?_
 intro i v o H1 hv ho s1 Z W hZ hW
 obtain⟨f,hf,rfl⟩:=cx ho
 obtain⟨d2,hd2,hvd⟩:=hx.get hv
 obtain⟨f',hf',rfl⟩:=cx hd2
 rw[hf] at hf'
 obtain rfl:=aa hf'
 have ZF:=hvd.on' s1
 obtain⟨b,rfl,hb⟩:=Dv.m8 ZF
 refine⟨rfl,_,rfl,b,_,_,_,rfl,rfl,SqT.of hb,aF (j:=1) rfl,rfl,_,rfl,?_⟩
 show if decide (V.int (if f.opt then 1 else 0)=V.int 0)=true then _ else _
 cases ho:f.opt with
 | true=>exact c5 (by decide) (hW (by rw[ho];rfl) _ (bg.refl _))
 | false=>exact nz rfl ⟨_,rfl,hZ (jL f) (by rw[ho];rfl) _ _ (bg.refl _) (ZF.sub H0)⟩
def ab0:Option Nat→V
 | some n=>.int n
 | none=>.non
def D9:Sp:=fun vs H Q _=>Ex4 fun(lo hi lo2 hi2:Nat)=>vs=[.int lo,.int hi,.int lo2,.int hi2]∧Q (ab0 (outside lo hi lo2 hi2)) H
theorem pH (T:Txt K mg t):cI P w K mg base CX0 1 t.ij t.jT ["lo","hi","other_lo","other_hi"] D9:=by
 refine T.fH.ok Eg (fun vs H Q E h=>by obtain⟨_,_,_,_,e,_⟩:=h;subst e;rfl) (fun cdv A outer s H vs Q E hr h=>?_)
 obtain⟨lo,hi,lo2,hi2,rfl,k⟩:=h
 refine⟨_,(ak (b9 (PW.pt (N9 (bo Ff (pv 0) (pv 2) (bL _)) (Ms (bo ve (pv 0) (pv 3) (bL _))))) (aA (a6 (pv 0))) bp)
  (ak (b9 (bo ve (pv 1) (pv 3) (bL _)) (aA (a6 (i4 pF (pv 3) aH))) bp)
  (aA (a6 yF)))),?_⟩
 unfold outside at k
 refine⟨_,rfl,_,rfl,_,_,rfl,rfl,_,rfl,qx (fun h=>uL ?_) (fun h=>?_)⟩
 ·have h:(lo:Int) < lo2:=of_decide_eq_true h
  rw[if_pos (.inl (by omega))] at k
  exact⟨_,rfl,k⟩
 have h1:¬ (lo:Int) < lo2:=fun z=>h (decide_eq_true z)
 refine⟨_,rfl,_,rfl,_,_,rfl,rfl,_,rfl,qx (fun h=>?_) (fun h=>?_)⟩
 ·have h:(hi2:Int) < lo:=of_decide_eq_true h
  rw[if_pos (.inr (by omega))] at k
  exact⟨_,rfl,k⟩
 have h2:¬ (hi2:Int) < lo:=fun z=>h (decide_eq_true z)
 rw[if_neg (by omega)] at k
 refine⟨_,rfl,_,rfl,_,_,rfl,rfl,_,rfl,qx (fun h=>?_) (fun h=>?_)⟩
 ·have h:(hi2:Int) < hi:=of_decide_eq_true h
  rw[if_pos (by omega)] at k
  refine⟨_,rfl,_,_,rfl,rfl,?_⟩
  show Q (.int ((hi2:Int)+1)) H
  exact k
 ·have h:¬ (hi2:Int) < hi:=fun z=>h (decide_eq_true z)
  rw[if_neg (by omega)] at k
  exact k
end
end U
namespace U
open PySem PySem.Spec PyProof.Rows L2
open PySem.W (Codec)
open Ways
section
variable {P:Program}{w:World}{K:ai}{mg:Str→Option Value}{base:Heap}{t:Adr}
theorem _root_.L2.Dv.cast {S:Addr→Prop}{H:Hp}{v:V}{d d':D} (h:Dv S H v d) (e:d=d'):Dv S H v d':=e▸h
abbrev SOf {S:Addr→Prop}{H:Hp}{v:V}{d:D} (_:Dv S H v d):Addr→Prop:=S
def Good:cp→Prop
 | .num _ _=>True
 | .text m=>m≤100
 | .list _ lo hi=>lo≤hi∧hi≤32
 | .record fs=>fs.length≤8∧(fs.map fun f=>f.name).Nodup
 | .choice fs=>fs.length≤8∧(fs.map fun f=>f.name).Nodup
def Vb (f:b8):D:=O5 (Jd f)
theorem TX (fs:List b8):(rb fs).length≤fs.length:=qM _ _
theorem Rj {K:ai}{tl:TE}{g:TG}{tt:TT}{te:TE}{vs:List Nat}{σ:L2.St}{H:Hp}{Q:VK} (C:V→Hp→Prop) (hw:∀ R:VK,(∀ x H1,C x H1→R x H1)→tl σ H R)
 (hb:∀ x H1,C x H1→∃ a,x=.ref a∧(∃ xs,SqL K H1 a xs)∧tLc (fun _ H R=>R (Itl K a) H) g tt te vs σ H1 Q):tLc (WO K tl) g tt te vs σ H Q:=hw _ hb
def Hf:Sp:=fun vs H Q _=>Ex3 fun(S:Addr→Prop) (v:V) (x:cp)=>vs=[v]∧Dv S H v (kM x)∧Good x∧New S H (.l ((jF x).map kQ)) Q
theorem sT (T:Txt K mg t):cI P w K mg base CX0 2 t.km t.mJ ["form"] Hf:=by
 refine T.iZ.ok kU (fun vs H Q E h=>by obtain⟨_,_,_,e,_⟩:=h;subst e;rfl) (fun cdv A outer s H vs Q E hr h=>?_)
 obtain⟨S,v,x,rfl,hv,hg,k⟩:=h
 refine⟨_,(ak (b9 (bo fe (a9 aY (pv 0) aH (fun _ _=>rfl)) (bz rfl T.qG T.qF) (bL _)) (aA (a6 (bX (ah (bG (HU T) (hr.mono (by decide)) rfl T.LK T.sD.kp T.LL .nil bw (ah (a9 aY (pv 0) aH (fun _ _=>rfl)) aq)) aq)))) bp)
  (ak (b9 (bo fe (a9 aY (pv 0) aH (fun _ _=>rfl)) (bz rfl T.oG T.oB) (bL _)) (aA (a6 (bX (ah (bG (Fg T) (hr.mono (by decide)) rfl T.Jq T.pO.kp T.Jy .nil bw (ah aH aq)) aq)))) bp)
  (ak (b9 (bo fe (a9 aY (pv 0) aH (fun _ _=>rfl)) (bz rfl T.lX T.lU) (bL _)) (aA (a6 (bX (ah (bG (t8 T) (hr.mono (by decide)) rfl T.w6 T.lh.kp T.w9 .nil bw (ah (i4 HP (bX (ah (bG (pI T) (hr.mono (by decide)) rfl T.tH T.lj.kp T.tJ .nil bw (ah (a9 aY (pv 0) aH (fun _ _=>rfl)) aq)) aq)) (a9 aY (pv 0) aH (fun _ _=>rfl))) aq)) aq)))) bp)
  (ak (b9 (bo fe (a9 aY (pv 0) aH (fun _ _=>rfl)) (bz rfl T.jz T.jx) (bL _)) (aA (a6 (bX (ah (bG (Az T) (hr.mono (by decide)) rfl T.DE T.lY.kp T.DI .nil bw (ah (rE (own:=[("field",1)]) rfl kU.nd (eY (bG (pG T) (hr.mono (by decide)) rfl T.rk T.fG.kp T.rn .nil bw (ah (a9 aY (pv 0) aH (fun _ _=>rfl)) aq))) (show lp uI (aL mG) _ _ from⟨rfl,by decide +kernel,by decide +kernel,by decide +kernel,by decide +kernel⟩) (fun _ _ _ _ _=>(cg (i:=1) kU.nd rfl (ba rfl))) (fun _ _ _ _ _=>iA) (fun _ _ _ _ _=>(dG (ah (a9 (r:=tR K) aY (pv 1) aH (fun _ _=>rfl)) (ah (bG (pI T) (hr.mono (by decide)) rfl T.tH T.lj.kp T.tJ .nil bw (ah (a9 (r:=tR K) aY (pv 1) aH (fun _ _=>rfl)) aq)) aq))))) aq)) aq)))) bp)
  (aA (a6 (rE (own:=[("one",2)]) rfl kU.nd (sQ (a9 aY (pv 0) aH (fun _ _=>rfl))) (show lp uI (aL mG) _ _ from⟨rfl,by decide +kernel,by decide +kernel,by decide +kernel,by decide +kernel⟩) (fun _ _ _ _ _=>(cg (i:=2) kU.nd rfl (ba rfl))) (fun _ _ _ _ _=>iA) (fun _ _ _ _ _=>(bG (AA T) (hr.mono (by decide)) rfl T.DH T.lZ.kp T.DL .nil bw (ah (a9 (r:=tR K) aY (pv 2) aH (fun _ _=>rfl)) (ah (bG (pI T) (hr.mono (by decide)) rfl T.tH T.lj.kp T.tJ .nil bw (ah (a9 (r:=tR K) aY (pv 2) aH (fun _ _=>rfl)) aq)) aq))))))))))),?_⟩
 obtain⟨p,xs,rfl,hp,_,hx⟩:=ud hv
 cases x with
 | num lo hi=>
   have hx:xs=[.int 0,.int lo,.int hi]:=hx
   subst hx
   refine⟨_,rfl,_,_,_,_,rfl,rfl,SqT.of hp,aF (j:=0) rfl,rfl,_,rfl,nz rfl ?_⟩
   refine⟨_,rfl,p,_,_,_,rfl,rfl,SqT.of hp,aF (j:=1) rfl,S,lo,rfl,fun v1 H1 s1 h1=>?_⟩
   exact mkL (.cons h1 .nil) (show 1≤1000000 by decide) fun p2 s2 h2=>(k.after s1) _ _ s2 h2
 | text m=>
   have hx:xs=[.int 1,.int m]:=hx
   subst hx
   refine⟨_,rfl,_,_,_,_,rfl,rfl,SqT.of hp,aF (j:=0) rfl,rfl,_,rfl,c5 (by decide) ?_⟩
   refine⟨_,rfl,_,_,_,_,rfl,rfl,SqT.of hp,aF (j:=0) rfl,rfl,_,rfl,nz rfl ?_⟩
   refine⟨S,0,rfl,by decide,fun v1 H1 s1 h1=>?_⟩
   exact mkL (.cons h1 .nil) (show 1≤1000000 by decide) fun p2 s2 h2=>(k.after s1) _ _ s2 h2
 | list o lo hi=>
   have hx:xs=[.int 2,.int o,.int lo,.int hi]:=hx
   subst hx
   have hg:lo≤hi∧hi≤32:=hg
   refine⟨_,rfl,_,_,_,_,rfl,rfl,SqT.of hp,aF (j:=0) rfl,rfl,_,rfl,c5 (by decide) ?_⟩
   refine⟨_,rfl,_,_,_,_,rfl,rfl,SqT.of hp,aF (j:=0) rfl,rfl,_,rfl,c5 (by decide) ?_⟩
   refine⟨_,rfl,_,_,_,_,rfl,rfl,SqT.of hp,aF (j:=0) rfl,rfl,_,rfl,nz rfl ?_⟩
   refine⟨_,rfl,p,_,_,_,rfl,rfl,SqT.of hp,aF (j:=1) rfl,S,o,rfl,fun v1 H1 s1 h1=>?_⟩
   refine mkL (.cons h1 .nil) (show 1≤1000000 by decide) fun p2 s2 h2=>?_
   refine⟨_,rfl,p,_,_,_,rfl,rfl,SqT.of ((s1.trans s2) _ _ hp),aF (j:=2) rfl,Ov h2 (show lo≤_ by omega) fun H3 v3 s3 h3=>?_⟩
   refine⟨_,v3,aj lo (i9 o),rfl,by rw[kH];exact h3,by rw[aX];omega,fun v4 H4 s4 h4=>?_⟩
   exact mkL (.cons h4 .nil) (show 1≤1000000 by decide) fun p5 s5 h5=>((((k.after s1).after s2).after s3).after s4) _ _ s5 h5
 | record fs=>
   obtain⟨a,ys,rfl,ha,hy⟩:=hx
   have hg:fs.length≤8∧_:=hg
   have hml:=TX fs
   refine⟨_,rfl,_,_,_,_,rfl,rfl,SqT.of hp,aF (j:=0) rfl,rfl,_,rfl,c5 (by decide) ?_⟩
   refine⟨_,rfl,_,_,_,_,rfl,rfl,SqT.of hp,aF (j:=0) rfl,rfl,_,rfl,c5 (by decide) ?_⟩
   refine⟨_,rfl,_,_,_,_,rfl,rfl,SqT.of hp,aF (j:=0) rfl,rfl,_,rfl,c5 (by decide) ?_⟩
   refine⟨_,rfl,_,_,_,_,rfl,rfl,SqT.of hp,aF (j:=0) rfl,rfl,_,rfl,nz rfl ?_⟩
   dsimp only[LW,YR,Ha,LX,QZ]
   refine Rj (fun v1 H1=>bg H H1∧Dv (nw S H) H1 v1 (.l ((rb fs).map jL))) (fun R h=>⟨_,rfl,p,_,_,_,rfl,rfl,SqT.of hp,aF (j:=1) rfl,S,.ref a,fs,rfl,.tup ha hy,by omega,fun v1 H1 s1 h1=>h v1 H1 ⟨s1,h1⟩⟩) ?_
   rintro v1 H1 ⟨s1,h1⟩
   obtain⟨b,zs,rfl,hS,hb,hz⟩:=h1.wM
   have hzl:zs.length=(rb fs).length:=by rw[hz.len,ae]
   refine⟨b,rfl,⟨_,SqL.of hb⟩,?_⟩
   refine uK (S:=nw S H) (ds:=((rb fs).map fun f=>(f.name,i9 f.of_)).map Qj) (fun v2 H2 s2 h2=>?_) (fun R h=>h) (Walks.list (SqL.of hb)) (by rw[hzl,ae,ae]) (by rw[hzl];exact small _ (by omega)) ?_
   ·refine⟨_,v2,_,rfl,h2,by rw[ae];omega,fun v4 H4 s4 h4=>?_⟩
    exact mkL (.cons h4 .nil) (show 1≤1000000 by decide) fun p5 s5 h5=>(((k.after s1).after s2).after s4) _ _ s5 h5
   ·intro i v d H3 hv hd s3 Z W hZ
    obtain⟨x,hx,rfl⟩:=cx hd
    obtain⟨f,hf,rfl⟩:=cx hx
    obtain⟨d2,hd2,hvd⟩:=hz.get hv
    obtain⟨f',hf',rfl⟩:=cx hd2
    rw[hf] at hf'
    obtain rfl:=aa hf'
    obtain⟨c,rfl,hc⟩:=Dv.m8 (hvd.on' s3)
    refine⟨rfl,LU ?_⟩
    refine⟨_,rfl,c,_,_,_,rfl,rfl,SqT.of hc,aF (j:=0) rfl,?_⟩
    refine⟨_,rfl,c,_,_,_,rfl,rfl,SqT.of hc,aF (j:=2) rfl,on (nw S H) H1,f.of_,rfl,fun v5 H5 s5 h5=>?_⟩
    exact mkT (.cons (.int _) (.cons h5 .nil)) (show 2≤1000000 by decide) fun p6 s6 h6=>hZ _ _ (s5.trans s6) (h6.sub (CM s5.non))
 | choice fs=>
   obtain⟨a,ys,rfl,ha,hy⟩:=hx
   have hg:fs.length≤8∧_:=hg
   refine⟨_,rfl,_,_,_,_,rfl,rfl,SqT.of hp,aF (j:=0) rfl,rfl,_,rfl,c5 (by decide) ?_⟩
   refine⟨_,rfl,_,_,_,_,rfl,rfl,SqT.of hp,aF (j:=0) rfl,rfl,_,rfl,c5 (by decide) ?_⟩
   refine⟨_,rfl,_,_,_,_,rfl,rfl,SqT.of hp,aF (j:=0) rfl,rfl,_,rfl,c5 (by decide) ?_⟩
   refine⟨_,rfl,_,_,_,_,rfl,rfl,SqT.of hp,aF (j:=0) rfl,rfl,_,rfl,c5 (by decide) ?_⟩
   have hyl:ys.length=fs.length:=by rw[hy.len,ae]
   dsimp only[NO,LW]
   refine uK (S:=S) (ds:=(jF (.choice fs)).map kQ) k (fun R h=>⟨_,rfl,p,_,_,_,rfl,rfl,SqT.of hp,aF (j:=1) rfl,a,rfl,⟨_,SqT.of ha⟩,h⟩) (Walks.tup (SqT.of ha)) (by rw[hyl,ae];exact(ae _).symm) (by rw[hyl];exact small _ (by omega)) ?_
   intro i v d H3 hv hd s3 Z W hZ
   obtain⟨x,hx,rfl⟩:=cx hd
   obtain⟨f,hf,rfl⟩:=cx hx
   obtain⟨d2,hd2,hvd⟩:=hy.get hv
   obtain⟨f',hf',rfl⟩:=cx hd2
   rw[hf] at hf'
   obtain rfl:=aa hf'
   obtain⟨c,rfl,hc⟩:=Dv.m8 (hvd.on' s3)
   refine⟨rfl,LU ?_⟩
   refine⟨_,rfl,c,_,_,_,rfl,rfl,SqT.of hc,aF (j:=0) rfl,?_⟩
   refine⟨_,rfl,c,_,_,_,rfl,rfl,SqT.of hc,aF (j:=1) rfl,on S H,f.of_,rfl,fun v5 H5 s5 h5=>?_⟩
   exact⟨_,f.name,v5,_,rfl,h5,fun v6 H6 s6 h6=>hZ _ _ (s5.trans s6) (h6.sub (CM s5.non))⟩
def zv:Sp:=fun vs H Q _=>Ex7 fun(S:Addr→Prop) (v u:V) (lo hi lo2 hi2:Nat)=>vs=[v,u]∧Dv S H v (kM (.num lo hi))∧Dv S H u (kM (.num lo2 hi2))∧New S H (.l ((mX (.num lo hi) (.num lo2 hi2)).map kQ)) Q
theorem zP (T:Txt K mg t):cI P w K mg base CX0 2 t.eP t.gM ["form","other"] zv:=by
 refine T.gS.ok rC (fun vs H Q E h=>by obtain⟨_,_,_,_,_,_,_,e,_⟩:=h;subst e;rfl) (fun cdv A outer s H vs Q E hr h=>?_)
 obtain⟨S,v,u,lo,hi,lo2,hi2,rfl,hv,hu,k⟩:=h
 refine⟨_,(ak (bW (i:=2) rC.nd rfl (ba rfl) (bG (pH T) (hr.mono (by decide)) rfl T.rm T.fH.kp T.rq .nil bw (ah (a9 aY (pv 0) aH (fun _ _=>rfl)) (ah (a9 aY (pv 0) aH (fun _ _=>rfl)) (ah (a9 aY (pv 1) aH (fun _ _=>rfl)) (ah (a9 aY (pv 1) aH (fun _ _=>rfl)) aq))))))
  (ak (b9 (bo HQ (pv 2) yF (bL _)) (aA (a6 (bX aq))) bp)
  (aA (a6 (bX (ah (bG (HU T) (hr.mono (by decide)) rfl T.LK T.sD.kp T.LL .nil bw (ah (pv 2) aq)) aq)))))),?_⟩
 obtain⟨p,rfl,hp⟩:=Dv.m8 (ns:=[0,(lo:Int),(hi:Int)]) hv
 obtain⟨q,rfl,hq⟩:=Dv.m8 (ns:=[0,(lo2:Int),(hi2:Int)]) hu
 refine⟨_,rfl,p,_,_,_,rfl,rfl,SqT.of hp,aF (j:=1) rfl,?_⟩
 refine⟨_,rfl,p,_,_,_,rfl,rfl,SqT.of hp,aF (j:=2) rfl,?_⟩
 refine⟨_,rfl,q,_,_,_,rfl,rfl,SqT.of hq,aF (j:=1) rfl,?_⟩
 refine⟨_,rfl,q,_,_,_,rfl,rfl,SqT.of hq,aF (j:=2) rfl,lo,hi,lo2,hi2,rfl,?_⟩
 have k:New S H (.l ((match outside lo hi lo2 hi2 with | some v=>[yP v] | none=>[]).map kQ)) Q:=k
 cases e:outside lo hi lo2 hi2 with
 | none=>
   rw[e] at k
   refine⟨_,rfl,rfl,_,rfl,uL ?_⟩
   exact mkL .nil (aT _) fun p s1 h1=>k _ _ s1 h1
 | some n=>
   rw[e] at k
   refine⟨_,rfl,rfl,_,rfl,z0 ?_⟩
   refine⟨_,rfl,S,n,rfl,fun v1 H1 s1 h1=>?_⟩
   exact mkL (.cons h1 .nil) (show 1≤1000000 by decide) fun p2 s2 h2=>(k.after s1) _ _ s2 h2
def yl:Sp:=fun vs H Q _=>Ex5 fun(S:Addr→Prop) (v u:V) (m m2:Nat)=>vs=[v,u]∧Dv S H v (kM (.text m))∧Dv S H u (kM (.text m2))∧m≤100∧New S H (.l ((mX (.text m) (.text m2)).map kQ)) Q
theorem HM {lo hi lo2 hi2 n:Nat} (e:outside lo hi lo2 hi2=some n):n=lo∨n≤hi:=by
 unfold outside at e
 split at e
 ·exact .inl (aa e).symm
 ·split at e
  ·have:=aa e
   omega
  ·cases e
theorem yI (T:Txt K mg t):cI P w K mg base CX0 2 t.d6 t.fL ["form","other"] yl:=by
 refine T.fV.ok qf (fun vs H Q E h=>by obtain⟨_,_,_,_,_,e,_⟩:=h;subst e;rfl) (fun cdv A outer s H vs Q E hr h=>?_)
 obtain⟨S,v,u,m,m2,rfl,hv,hu,hm,k⟩:=h
 refine⟨_,(ak (bW (i:=2) qf.nd rfl (ba rfl) (bG (pH T) (hr.mono (by decide)) rfl T.rm T.fH.kp T.rq .nil bw (ah aH (ah (a9 aY (pv 0) aH (fun _ _=>rfl)) (ah aH (ah (a9 aY (pv 1) aH (fun _ _=>rfl)) aq))))))
  (ak (b9 (bo HQ (pv 2) yF (bL _)) (aA (a6 (bX aq))) bp)
  (aA (a6 (bX (ah (bG (Fg T) (hr.mono (by decide)) rfl T.Jq T.pO.kp T.Jy .nil bw (ah (pv 2) aq)) aq)))))),?_⟩
 obtain⟨p,rfl,hp⟩:=Dv.m8 (ns:=[1,(m:Int)]) hv
 obtain⟨q,rfl,hq⟩:=Dv.m8 (ns:=[1,(m2:Int)]) hu
 refine⟨_,rfl,p,_,_,_,rfl,rfl,SqT.of hp,aF (j:=1) rfl,?_⟩
 refine⟨_,rfl,q,_,_,_,rfl,rfl,SqT.of hq,aF (j:=1) rfl,0,m,0,m2,rfl,?_⟩
 have k:New S H (.l ((match outside 0 m 0 m2 with | some v=>[lF v] | none=>[]).map kQ)) Q:=k
 cases e:outside 0 m 0 m2 with
 | none=>
   rw[e] at k
   refine⟨_,rfl,rfl,_,rfl,uL ?_⟩
   exact mkL .nil (aT _) fun p s1 h1=>k _ _ s1 h1
 | some n=>
   rw[e] at k
   have hn:=HM e
   refine⟨_,rfl,rfl,_,rfl,z0 ?_⟩
   refine⟨_,rfl,S,n,rfl,by omega,fun v1 H1 s1 h1=>?_⟩
   exact mkL (.cons h1 .nil) (show 1≤1000000 by decide) fun p2 s2 h2=>(k.after s1) _ _ s2 h2
def Vi (S:Addr→Prop) (H:Hp) (ds:List D) (Q:VK):Prop:=∀ a xs H',bg H H'→H' a=some (.lst xs)→H a=none→bh (fun b=>nw S H b∧b≠a) H' xs ds→Q (.ref a) H'
theorem Vi.after {S:Addr→Prop}{H H1:Hp}{ds:List D}{Q:VK} (k:Vi S H ds Q) (s:bg H H1):Vi (nw S H) H1 ds Q:=fun a xs H' s' ha hn hx=>
 k a xs H' (s.trans s') ha (s.non a hn) (hx.sub fun b hb=>⟨CM s.non b hb.1,hb.2⟩)
theorem mkN {S:Addr→Prop}{H:Hp}{xs:List V}{ds:List D}{Q:VK} (k:Vi S H ds Q) (h:bh S H xs ds) (hz:xs.length≤1000000):xs.length≤sizeLine∧∀ p,H p=none→Q (.ref p) (upd H p (.lst xs)):=
 ⟨bP hz (by decide),fun p hp=>k p xs _ (bg.new hp) aE hp ((h.on.sub fun b hb=>(⟨.inl hb.1,fun z=>hb.2 (by rw[z];exact hp)⟩:nw S H b∧b≠p)).keep (Kp.of_same (bg.new hp)))⟩
def zu:Sp:=fun vs H Q _=>Ex9 fun(S:Addr→Prop) (v u:V) (o lo hi o2 lo2 hi2:Nat)=>vs=[v,u]∧Dv S H v (kM (.list o lo hi))∧Dv S H u (kM (.list o2 lo2 hi2))∧lo≤hi∧hi≤32∧Vi S H ((l8 o lo hi o2).map kQ) Q
theorem zO (T:Txt K mg t):cI P w K mg base CX0 2 t.eO t.gL ["form","other"] zu:=by
 refine T.gR.ok jb (fun vs H Q E h=>by obtain⟨_,_,_,_,_,_,_,_,_,e,_⟩:=h;subst e;rfl) (fun cdv A outer s H vs Q E hr h=>?_)
 obtain⟨S,v,u,o,lo,hi,o2,lo2,hi2,rfl,hv,hu,hlo,hhi,k⟩:=h
 refine⟨_,(ak (bW (i:=2) jb.nd rfl (ba rfl) (dH (SK rfl) (by rfl) T.aao (by rfl) (ah aH (ah (a9 aY (pv 0) aH (fun _ _=>rfl)) aq))))
  (ak (b9 (bo ve (pv 2) (a9 aY (pv 0) aH (fun _ _=>rfl)) (bL _)) (aA (a6 (bX aq))) bp)
  (ak (bW (i:=3) jb.nd rfl (ba rfl) (bX (ah (dG (ah (a9 aY (pv 0) aH (fun _ _=>rfl)) (ah (a9 aY (pv 1) aH (fun _ _=>rfl)) aq))) aq)))
  (ak (bW (i:=4) jb.nd rfl (ba rfl) (i4 HP (bX (ah (bG (pI T) (hr.mono (by decide)) rfl T.tH T.lj.kp T.tJ .nil bw (ah (a9 aY (pv 0) aH (fun _ _=>rfl)) aq)) aq)) (i4 HN (pv 2) aH)))
  (aA (a6 (bX (ah (bG (t8 T) (hr.mono (by decide)) rfl T.w6 T.lh.kp T.w9 .nil bw (ah (i4 HR (pv 3) (pv 4)) aq)) (ah (bG (t8 T) (hr.mono (by decide)) rfl T.w6 T.lh.kp T.w9 .nil bw (ah (i4 HR (pv 4) (pv 3)) aq)) aq))))))))),?_⟩
 obtain⟨p,rfl,hp⟩:=Dv.m8 (ns:=[2,(o:Int),(lo:Int),(hi:Int)]) hv
 obtain⟨q,rfl,hq⟩:=Dv.m8 (ns:=[2,(o2:Int),(lo2:Int),(hi2:Int)]) hu
 have em:(if (lo:Int) > 1 then (lo:Int) else 1)=((max 1 lo:Nat):Int):=by
  split<;>omega
 refine⟨_,rfl,p,_,_,_,rfl,rfl,SqT.of hp,aF (j:=2) rfl,_,_,rfl,?_⟩
 rw[em]
 unfold l8 at k
 refine⟨_,rfl,_,rfl,p,_,_,_,rfl,rfl,SqT.of hp,aF (j:=3) rfl,_,_,rfl,rfl,_,rfl,qx (fun h=>?_) (fun h=>?_)⟩
 ·have h:(hi:Int) < ((max 1 lo:Nat):Int):=of_decide_eq_true h
  rw[if_pos (by omega)] at k
  exact mkN k .nil (aT _)
 have h:¬ (hi:Int) < ((max 1 lo:Nat):Int):=fun z=>h (decide_eq_true z)
 rw[if_neg (by omega)] at k
 refine⟨_,rfl,p,_,_,_,rfl,rfl,SqT.of hp,aF (j:=1) rfl,?_⟩
 refine⟨_,rfl,q,_,_,_,rfl,rfl,SqT.of hq,aF (j:=1) rfl,mkT (S:=S) (bh.ints [(o:Int),(o2:Int)]) (show 2≤1000000 by decide) fun p1 s1 h1=>mkL (.cons h1 .nil) (show 1≤1000000 by decide) fun p2 s2 h2=>?_⟩
 have hp2:=(s1.trans s2) _ _ hp
 refine⟨_,rfl,p,_,_,_,rfl,rfl,SqT.of hp2,aF (j:=1) rfl,SOf h2,o,rfl,fun v3 H3 s3 h3=>?_⟩
 refine mkL (.cons h3 .nil) (show 1≤1000000 by decide) fun p4 s4 h4=>?_
 refine⟨_,rfl,_,_,rfl,rfl,?_⟩
 have en:((max 1 lo:Nat):Int) - 1=((max 1 lo - 1:Nat):Int):=by omega
 dsimp only
 rw[en]
 refine Ov h4 (by omega) fun H5 v5 s5 h5=>?_
 have h5':=h5.cast (d':=.l ((aj (max 1 lo - 1) (i9 o)).map e9)) (by rw[kH])
 have h2':=(((h2.up s3).up s4).up s5).cast (d':=.l ([((o:Int),(o2:Int))].map e9)) rfl
 refine⟨_,rfl,_,rfl,?_⟩
 refine T2 h2' h5' (by rw[ae,ae,aX];show 1+_≤_;omega) fun H6 v6 s6 h6=>?_
 rw[← aJ] at h6
 refine⟨_,v6,_,rfl,h6,by rw[au,aX];show 1+_≤_;omega,fun v7 H7 s7 h7=>?_⟩
 refine⟨_,rfl,_,rfl,?_⟩
 refine T2 ((h5'.up s6).up s7) ((h2'.up s6).up s7) (by rw[ae,ae,aX];show _+1≤_;omega) fun H8 v8 s8 h8=>?_
 rw[← aJ] at h8
 refine⟨_,v8,_,rfl,h8,by rw[au,aX];show _+1≤_;omega,fun v9 H9 s9 h9=>?_⟩
 exact mkN (((((((((k.after s1).after s2).after s3).after s4).after s5).after s6).after s7).after s8).after s9) (.cons ((h7.up s8).up s9) (.cons h9 .nil)) (show 2≤1000000 by decide)
end
end U
namespace L2
open PySem PySem.Spec PyProof.Rows
theorem FG:typeLookup (.type "tuple") "keys"=pure none:=am_miss_of_fast (by first | decide +kernel | rfl)
section
variable {prog:Program}{w:World}{A:Around}{E:Value→Shared→Prop}
theorem Ql {s:Shared}{a:Addr}{o:Obj}{xs:Array Value}{k:Nat}{Q:Option Value→Shared→Prop} (hx:s.heap.get? a=some o) (hc:o.cls=.type "tuple") (uN:o.data=.seq xs k) (hd:o.dict=none) (hA:A.handled=none)
 (h:∀ h' tk,(∀ b ob,s.heap.get? b=some ob→h'.get? b=some ob)→Q none { s with heap:=h',toks:=tk }):wpAny (model prog w) A (getAttr? (.ref a) "keys") Q E s:=by
 obtain⟨c,dct,dat,sl⟩:=o
 simp only at hc uN hd
 subst hc uN hd
 obtain⟨hp,g,d,tk,os⟩:=s
 have hT:∀ tk',(⟨hp,g,d,tk',os⟩:Shared).TypeIs (.ref a) "tuple":=fun _=>⟨_,hx,rfl⟩
 have Uv:=FG
 have Uu:(["__module__","__name__","__qualname__","__doc__","__annotations__"]:List Str).contains "keys"=false:=by decide +kernel
 have hsz:("keys" :Str).length+100≤sizeLine:=by first | size_fits | decide +kernel
 have f1:=sub_AttributeError
 have f3:=o9.lookup
 have f4:=o9.bind (.ref a)
 have f5:=am_tuple_getattr_none
 unfold getAttr? getAttrBy? getAttrBy
 repeat (any_goals (first | assumption | exact hT _ | ((with_reducible show wpAny _ _ (call (Value.builtin "tuple.__getattribute__") _ _) _ _ _);refine tO o9 (hT _) am_entry_tuple_getattribute (PySem.F.args_tuple_getattribute_2 _ _) (meets_getattribute_miss_tuple a xs k sl "keys" _ Uv Uu hsz) ⟨hx,hA,fun h' tk' e hx'=>?_⟩) | wp_step))
 obtain⟨t',u',he⟩:=hx'.there
 show wpAny _ _ (getattributeRaised _ _ _ _ _ _ _) _ _ _
 unfold getattributeRaised
 repeat (any_goals (first | assumption | wp_step))
 all_goals first | exact h _ _ hx'.keeps | (dsimp only;repeat (any_goals (first | assumption | exact h _ _ hx'.keeps | wp_step)))
theorem KR {R:Result→Shared→Prop}{S I l:Addr}{items:Array Value}{res:Value} (hh:A.handled=none) (hlI:l≠I) (hSI:S≠I) (hSl:S≠l):
 ∀ (rest:List (Key×Value)) (i:Nat) (acc:List (Key×Value)) (ix:Int) (t:Tok) (s:Shared),items.size=i+rest.length→acc.length+rest.length≤sizeLine→
   (∀ (j:Nat) (q:Key×Value),rest[j]?=some q→∃ (b:Addr) (u:Value),items[i+j]?=some (.ref b)∧b≠S∧b≠I∧IsTup s.heap b #[u,q.2]∧vp q.1 u=true)→
   s.heap.IsTupleIter I l i→s.heap.IsTuple l items→s.heap.DictOf (da prog w) S acc→
   (∀ h' tk,h'.DictOf (da prog w) S (merged acc rest)→(∀ b o,b≠S→b≠I→s.heap.get? b=some o→h'.get? b=some o)→R (.ok (.ret res)) { s with heap:=h',toks:=tk })→
   codeAny (model prog w) A (.builtin "dict.update.loop" ⟨[.ref S,.ref I,.int ix t,res],[]⟩) R s
 | [],i,acc,ix,t,s,hsz,hln,ht,hit,hl,hm,hR=>by
   refine pQ B8 ?_
   rw[Around.under_plainId mF _]
   show wpAny _ A.in1 (pyNext (.ref I) >>= _) _ _ s
   refine ao (wpAny_pyNext_tuple_end (A:=A.in1) hh hit hl (by first | exact yf (uo hsz) | (simp at hsz;simp;omega)) fun h' he=>?_)
   show wpAny _ A.in1 (Builtin.Dict.addKeywords S [] >>= _) _ _ _
   refine ao (aS (aS ?_))
   exact hR h' s.toks (hm.extBut he hSI) fun b o _ hb e=>he b o hb e
 | q::rest,i,acc,ix,t,s,hsz,hln,ht,hit,hl,hm,hR=>by
   obtain⟨b,u,hb,hbS,hbI,XX,hk⟩:=ht 0 q rfl
   rw[aM] at hsz hln
   refine pQ B8 ?_
   rw[Around.under_plainId mF _]
   show wpAny _ A.in1 (pyNext (.ref I) >>= _) _ _ s
   refine ao (wpAny_pyNext_tuple_item (x:=.ref b) hit hl (by simpa using hb) fun h1 X8 hs1=>?_)
   have ht1:IsTup h1 b #[u,q.2]:=XX.extBut hs1.extBut hbI
   have hl1:h1.IsTuple l items:=hl.extBut hs1.extBut hlI
   have hm1:h1.DictOf (da prog w) S acc:=hm.extBut hs1.extBut hSI
   obtain⟨o,ho,hc,n,hd⟩:=id ht1
   show wpAny _ A.in1 (holding [Value.ref b] _ >>= _) _ _ _
   refine ao (jP ?_)
   refine ao (wpAny_tryCatch ?_)
   unfold Builtin.Dict.pairItems
   refine ao (BZ (T:="tuple") ⟨o,ho,hc⟩ ?_)
   rw[if_pos (by first | decide | rfl | simp)]
   refine ao (wpAny_seqItems ho hd (aS ?_))
   show wpAny _ A.in1 (holding [u,q.2] (dictSet S u q.2)) _ _ _
   refine jP (wpAny_dictSet_pairs (knd:=da prog w) (k:=q.1) hk hm1 (fun h2 hm2 hs2=>?_) (by omega))
   refine aS ⟨mD mF _,KR (items:=items) hh hlI hSI hSl rest (i+1) (stored acc q.1 q.2) (ix+1) 0 _ (show items.size=i+1+rest.length by omega) ?_ (fun j q' e=>?_) ?_ ?_ hm2 fun h' tk hd' k=>?_⟩
   ·have z:=stored_length_le acc q.1 q.2
    omega
   ·obtain⟨b',u',hb',UJ,UK,Ur,hk'⟩:=ht (j+1) q' (by simpa using e)
    refine⟨b',u',?_,UJ,UK,(Ur.extBut hs1.extBut UK).extBut hs2.extBut UJ,hk'⟩
    rw[show i+1+j=i+(j+1) by omega]
    exact hb'
   ·exact X8.at fun o' e=>hs2.extBut I o' (br hSI) e
   ·exact hl1.extBut hs2.extBut (br hSl)
   ·exact hR h' tk hd' fun c oc h3 h4 e=>k c oc h3 h4 (hs2.extBut c oc h3 (hs1.extBut c oc h4 e))
theorem E1 {s:Shared}{l:Addr}{ol:Obj}{items:Array Value}{n:Nat}{prs:List (Key×Value)}{Q:Value→Shared→Prop} (hh:A.handled=none) (hl:s.heap.get? l=some ol) (hc:ol.cls=.type "tuple") (hd:ol.dict=none)
 (uN:ol.data=.seq items n) (hsz:items.size=prs.length) (hln:prs.length≤sizeLine)
 (ht:∀ (j:Nat) (q:Key×Value),prs[j]?=some q→∃ (b:Addr) (u:Value),items[j]?=some (.ref b)∧IsTup s.heap b #[u,q.2]∧vp q.1 u=true)
 (h:∀ h' tk,h'.DictOf (da prog w) s.heap.objs.size (merged [] prs)→(∀ b o,s.heap.get? b=some o→h'.get? b=some o)→Q (.ref s.heap.objs.size) { s with heap:=h',toks:=tk }):
 wpAny (model prog w) A (call (.type "dict") [.ref l]) Q E s:=by
 refine callType_codes (Q₁:=fun obj s₁=>obj=.ref s.heap.objs.size∧s₁={ s with heap:=s.heap.push { cls:=.type "dict",data:=.dict #[] } }) PySem.F.kt_called_dict (PySem.F.kt_typeCall_dict_1 _) PySem.F.entry_dict_init (kt_code_dict_new _ ⟨rfl,rfl⟩) ?_
 rintro obj s₁ ⟨rfl,rfl⟩
 have Gg:(s.heap.push { cls:=.type "dict",data:=.dict #[] }).DictOf (da prog w) s.heap.objs.size []:=Heap.DictOf.new s.heap
 have k0:∀ b o,s.heap.get? b=some o→(s.heap.push { cls:=.type "dict",data:=.dict #[] }).get? b=some o:=fun b o e=>Heap.get?_push_of_some _ e
 refine⟨Gg.typeIs,PySem.F.args_dict_init_2 _ _,?_⟩
 unfold Builtin.«dict.__init__»
 refine ao ?_
 unfold Builtin.Dict.selfAndRest
 refine ao (DU Gg.typeIs ?_)
 show wpAny _ _ (pure (s.heap.objs.size,[Value.ref l])) _ _ _
 refine aS ?_
 show wpAny _ _ (Builtin.Dict.updateFrom "dict.__init__" s.heap.objs.size (.ref l) [] .none) _ _ _
 unfold Builtin.Dict.updateFrom
 refine ao (BZ (T:="tuple") ⟨ol,k0 _ _ hl,hc⟩ ?_)
 rw[if_pos (by first | decide | rfl | simp)]
 refine ao (Ql (k0 _ _ hl) hc uN hd hh fun h1 tk1 hk1=>?_)
 rw[if_pos (show(none:Option Value).isNone=true from rfl)]
 refine ao (wpAny_rule ?_)
 have hl1:h1.IsTuple l items:=⟨ol,hk1 _ _ (k0 _ _ hl),hc,n,uN⟩
 have hS1:s.heap.objs.size < h1.objs.size:=by
  have e:(s.heap.push { cls:=.type "dict",data:=.dict #[] }).get? s.heap.objs.size=some { cls:=.type "dict",data:=.dict #[] }:=Heap.get?_push_size _ rfl
  exact Heap.lt_size (hk1 _ _ e)
 refine ao (wpAny_pyIter_tuple hl1 ?_)
 have k2:∀ b o,h1.get? b=some o→(h1.push { cls:=.type "tuple_iterator",data:=.fields #[.ref l,.int 0 0] }).get? b=some o:=fun b o e=>Heap.get?_push_of_some _ e
 have hlt:l < s.heap.objs.size:=Heap.lt_size hl
 have key:=KR (prog:=prog) (w:=w) (A:=A.in1) (R:=wants (fun r s₂=>r=.none∧Q (.ref s.heap.objs.size) s₂) E) (S:=s.heap.objs.size) (I:=h1.objs.size) (l:=l) (items:=items) (res:=Value.none) hh
  (bV (kO hlt hS1)) (bV hS1) (zr hlt) prs 0 [] 0 0
  { s with heap:=h1.push { cls:=.type "tuple_iterator",data:=.fields #[.ref l,.int 0 0] },toks:=tk1 } (by rw[hsz,fD]) (by rw[cR,fD];exact hln)
  (fun j q e=>by
    obtain⟨b,u,e1,e2,e3⟩:=ht j q e
    have hb:b < s.heap.objs.size:=e2.lt
    exact⟨b,u,by rw[fD];exact e1,bV hb,bV (kO hb hS1),e2.keeps fun c o z=>k2 _ _ (hk1 _ _ (k0 _ _ z)),e3⟩)
  ⟨_,Heap.get?_push_size _ rfl,rfl,rfl⟩ (hl1.at fun o e=>k2 _ _ e) ((Gg.at fun o e=>hk1 _ _ e).at fun o e=>k2 _ _ e)
  (fun h' tk hd' k=>⟨rfl,h h' tk hd' fun b o e=>k b o (bV (Heap.lt_size e)) (bV (kO (Heap.lt_size e) hS1)) (k2 _ _ (hk1 _ _ (k0 _ _ e)))⟩)
 first
  | exact aS ⟨mD mF _,key⟩
  | exact ao (aS (aS ⟨mD mF _,key⟩))
end
section
variable {X:Cx}
theorem QL (UH:X.calm=true):FA X (.type "dict") (fun xs H Q=>∃ (a:Addr) (ps:List Addr) (kvs:List (Key×V)),xs=[.ref a]∧H a=some (.tup (ps.map V.ref))∧Paired (fun p kv=>SqT X.K H p [kV kv.1,kv.2]) ps kvs∧
 ∀ p,H p=none→Q (.ref p) (upd H p (.dK (nv [] kvs)))):=by
 intro pins s σ H xs us Q I r q
 obtain⟨a,ps,kvs,ex,hq,hp,q⟩:=q
 subst ex
 obtain⟨u,eu,rx⟩:=vals1 r
 subst eu
 cases rx
 obtain⟨hz,its,rv,pl⟩:=(show i5 X.prog X.w H s.heap a (.tup (ps.map V.ref)) from I.hok a _ hq)
 have ei:=Md rv
 subst ei
 rw[ae] at hz
 obtain⟨prs,rel,hl,hpr⟩:=HJ I hp
 obtain⟨o,ho,hcd,n,uN⟩:=pl
 have hc:=(aV hcd).1
 have hd:=(aV hcd).2
 refine E1 (prs:=prs) (I.ok.hd UH) ho hc hd uN (by simp[hl]) (by rw[hl];exact hz) (fun j q' e=>?_) fun h' tk hd' k=>?_
 ·obtain⟨b,u,e1,e2,e3⟩:=hpr j q' e
  exact⟨b,u,by simp[e1],e2,e3⟩
 ·have hm:(s.heap.objs.size == sysModules)=false:=beq_eq_false_iff_ne.mpr (zr I.big)
  have hlen:(nv [] kvs).length≤sizeLine:=by
   refine bP (uJ kvs []) ?_
   rw[cR,fD,rel.length,hl]
   exact hz
  exact⟨.ref s.heap.objs.size,upd H s.heap.objs.size (.dK (nv [] kvs)),I.laid (t':=tk) k (aB _) (show i5 X.prog X.w _ _ _ (.dK (nv [] kvs)) from⟨hlen,hm,merged [] prs,KV.merge rel .nil,hd'⟩),rfl,q _ (I.hok.fresh (aB _))⟩
end
end L2
namespace U
open PySem PySem.Spec PyProof.Rows L2
open PySem.W (Codec)
open Ways
section
variable {P:Program}{w:World}{K:ai}{mg:Str→Option Value}{base:Heap}{t:Adr}
theorem grow {S:Addr→Prop}{H H1 H5:Hp}{a:Addr}{xs:List V}{ds:List D}{d:D}{v5:V}{Q:VK} (k:New S H (.l (ds++[d])) Q) (s1:bg H H1) (ha:H1 a=some (.lst xs)) (hna:H a=none) (hx:bh (fun b=>nw S H b∧b≠a) H1 xs ds) (s5:bg H1 H5) (h5:Dv (nw (fun b=>nw S H b∧b≠a) H1) H5 v5 d):Q (.ref a) (upd H5 a (.lst (xs++[v5]))):=by
 have ha5:=s5 _ _ ha
 have kp:Kp (fun b=>nw S H b∧b≠a) H5 (upd H5 a (.lst (xs++[v5]))):=Kp.put ha5 (fun _ z=>by cases z) (fun z=>z.2 rfl)
 refine k _ _ (fun b u e=>by rw[aN (bf e hna)];exact(s1.trans s5) _ _ e) (.lst (.inr hna) aE ?_)
 refine(((hx.keep (Kp.of_same s5)).keep kp).append (.cons ?_ .nil)).sub fun b hb=>hb.1
 refine(h5.sub fun b hb=>?_).keep kp
 rcases hb with hb | hb
 ·exact hb
 ·exact⟨.inr (s1.non b hb),fun z=>by rw[z,ha] at hb;cases hb⟩
def ym:Sp:=fun vs H Q _=>Ex9 fun(S:Addr→Prop) (v u:V) (o lo hi o2 lo2 hi2:Nat)=>vs=[v,u]∧Dv S H v (kM (.list o lo hi))∧Dv S H u (kM (.list o2 lo2 hi2))∧lo≤hi∧hi≤32∧New S H (.l ((mX (.list o lo hi) (.list o2 lo2 hi2)).map kQ)) Q
theorem yJ (T:Txt K mg t):cI P w K mg base CX0 3 t.d7 t.fM ["form","other"] ym:=by
 refine T.fW.ok kW (fun vs H Q E h=>by obtain⟨_,_,_,_,_,_,_,_,_,e,_⟩:=h;subst e;rfl) (fun cdv A outer s H vs Q E hr h=>?_)
 obtain⟨S,v,u,o,lo,hi,o2,lo2,hi2,rfl,hv,hu,hlo,hhi,k⟩:=h
 refine⟨_,(ak (bW (i:=2) kW.nd rfl (ba rfl) (bG (zO T) (hr.mono (by decide)) rfl T.BP T.gR.kp T.BS .nil bw (ah (pv 0) (ah (pv 1) aq))))
  (ak (bW (i:=3) kW.nd rfl (ba rfl) (bG (pH T) (hr.mono (by decide)) rfl T.rm T.fH.kp T.rq .nil bw (ah (a9 aY (pv 0) aH (fun _ _=>rfl)) (ah (a9 aY (pv 0) aH (fun _ _=>rfl)) (ah (a9 aY (pv 1) aH (fun _ _=>rfl)) (ah (a9 aY (pv 1) aH (fun _ _=>rfl)) aq))))))
  (ak (b9 (bo VP (pv 3) yF (bL _)) (aA (cw (l5 aW bB bA d5 (pv 2) (ah (bG (t8 T) (hr.mono (by decide)) rfl T.w6 T.lh.kp T.w9 .nil bw (ah (i4 HP (bX (ah (bG (pI T) (hr.mono (by decide)) rfl T.tH T.lj.kp T.tJ .nil bw (ah (a9 aY (pv 0) aH (fun _ _=>rfl)) aq)) aq)) (pv 3)) aq)) aq)))) bp)
  (aA (a6 (pv 2)))))),?_⟩
 obtain⟨p,rfl,hp⟩:=Dv.m8 (ns:=[2,(o:Int),(lo:Int),(hi:Int)]) hv
 obtain⟨q,rfl,hq⟩:=Dv.m8 (ns:=[2,(o2:Int),(lo2:Int),(hi2:Int)]) hu
 refine⟨_,rfl,_,rfl,S,_,_,o,lo,hi,o2,lo2,hi2,rfl,hv,hu,hlo,hhi,fun a xs H1 s1 ha hna hx=>?_⟩
 have hp1:=s1 _ _ hp
 have hq1:=s1 _ _ hq
 refine⟨_,rfl,p,_,_,_,rfl,rfl,SqT.of hp1,aF (j:=2) rfl,?_⟩
 refine⟨_,rfl,p,_,_,_,rfl,rfl,SqT.of hp1,aF (j:=3) rfl,?_⟩
 refine⟨_,rfl,q,_,_,_,rfl,rfl,SqT.of hq1,aF (j:=2) rfl,?_⟩
 refine⟨_,rfl,q,_,_,_,rfl,rfl,SqT.of hq1,aF (j:=3) rfl,lo,hi,lo2,hi2,rfl,?_⟩
 have k:New S H (.l ((l8 o lo hi o2++(match outside lo hi lo2 hi2 with | some n=>[eD (aj n (i9 o))] | none=>[])).map kQ)) Q:=k
 have hxl:xs.length≤2:=by
  rw[hx.len,ae]
  unfold l8
  split<;>simp
 cases e:outside lo hi lo2 hi2 with
 | none=>
   rw[e,cq] at k
   refine⟨_,rfl,rfl,_,rfl,z0 ?_⟩
   exact⟨_,rfl,k _ _ s1 (.lst (.inr hna) ha (hx.sub fun b hb=>hb.1))⟩
 | some n=>
   rw[e,aJ] at k
   have hn:=HM e
   refine⟨_,rfl,rfl,_,rfl,uL ?_⟩
   have k':New (fun b=>nw S H b∧b≠a) H1 (kQ (eD (aj n (i9 o)))) (fun v5 H5=>Q (.ref a) (upd H5 a (.lst (xs++[v5])))):=fun v5 H5 s5 h5=>grow k s1 ha hna hx s5 h5
   refine⟨_,rfl,.inl ⟨rfl,_,SqL.of ha⟩,?_⟩
   refine⟨_,rfl,p,_,_,_,rfl,rfl,SqT.of hp1,aF (j:=1) rfl,(fun b=>nw S H b∧b≠a),o,rfl,fun v2 H2 s2 h2=>?_⟩
   refine mkL (.cons h2 .nil) (show 1≤1000000 by decide) fun p3 s3 h3=>?_
   refine⟨_,rfl,Ov h3 (by omega) fun H4 v4 s4 h4=>?_⟩
   refine⟨_,v4,aj n (i9 o),rfl,by rw[kH];exact h4,by rw[aX];omega,fun v5 H5 s5 h5=>?_⟩
   refine⟨a,xs,v5,rfl,rfl,(((s2.trans s3).trans s4).trans s5) _ _ ha,small _ (by omega),_,rfl,?_⟩
   exact(((New.after k' s2).after s3).after s4) _ _ s5 h5
theorem O1 {fs:List b8}:(rb fs).length≤fs.length:=qM _ _
def AW:Sp:=fun vs H Q _=>Ex5 fun(S:Addr→Prop) (v u:V) (fs fs2:List b8)=>vs=[v,u]∧Dv S H v (.t (fs.map jL))∧Dv S H u (.t (fs2.map jL))∧fs.length≤8∧fs2.length≤8∧∀ H',bg H H'→Q (.bl (sZ fs fs2)) H'
theorem C9 (n:Int):∀ ns:List Int,inV (.int n) (ns.map V.int)=ns.contains n
 | []=>rfl
 | m::ns=>by
   have ih:=C9 n ns
   unfold inV at ih ⊢
   rw[aU,rS,ih,List.contains_cons]
   show((m == n) || _)=_
   congr 1
   rw[i8,beq_iff_eq,beq_iff_eq]
   exact eq_comm
theorem UL (fs:List b8) (n:Nat):(fs.map fun f=>(f.name:Int)).contains (n:Int)=(fs.map fun x=>x.name).contains n:=by
 rw[i8,lu,lu,ay,ay]
 constructor
 ·rintro⟨f,hf,e⟩
  exact⟨f,hf,by omega⟩
 ·rintro⟨f,hf,e⟩
  exact⟨f,hf,by omega⟩
theorem Br (T:Txt K mg t):cI P w K mg base CX0 2 t.fq t.iF ["fields","other_fields"] AW:=by
 refine T.iO.ok jG (fun vs H Q E h=>by obtain⟨_,_,_,_,_,e,_⟩:=h;subst e;rfl) (fun cdv A outer s H vs Q E hr h=>?_)
 obtain⟨S,v,u,fs,fs2,rfl,hv,hu,hl,hl2,k⟩:=h
 refine⟨_,(ak (HF (i:=2) (own:=[("field",3)]) rfl jG.nd rfl rfl rfl (eY (bG (pG T) (hr.mono (by decide)) rfl T.rk T.fG.kp T.rn .nil bw (ah (pv 0) aq))) (show lp ub (aL kK) _ _ from⟨rfl,by decide +kernel,by decide +kernel,by decide +kernel,by decide +kernel⟩) (fun _ _ _ _ _=>(cg (i:=3) jG.nd rfl (ba rfl))) (fun _ _ _ _ _=>iA) (fun _ _ _ _ _=>(a9 (r:=tR K) aY (pv 3) aH (fun _ _=>rfl))))
  (ak (iW PassesOwn.never rfl (eY (bG (pG T) (hr.mono (by decide)) rfl T.rk T.fG.kp T.rn .nil bw (ah (pv 1) aq))) (cg (i:=3) jG.nd rfl (ba rfl)) (aA (b9 (bo CH (a9 aY (pv 3) aH (fun _ _=>rfl)) (pv 2) rfl) (aA (a6 xq)) bp)))
  (aA (a6 xq)))),?_⟩
 have hm:=O1 (fs:=fs)
 have hm2:=O1 (fs:=fs2)
 dsimp only[RY,PV]
 refine Rj (fun v1 H1=>bg H H1∧Dv (nw S H) H1 v1 (.l ((rb fs).map jL))) (fun R h=>⟨_,rfl,S,v,fs,rfl,hv,by omega,fun v1 H1 s1 h1=>h v1 H1 ⟨s1,h1⟩⟩) ?_
 rintro v1 H1 ⟨s1,h1⟩
 obtain⟨b,zs,rfl,hS,hb,hz⟩:=h1.wM
 refine⟨b,rfl,⟨_,SqL.of hb⟩,?_⟩
 refine wN (S:=nw S H) (ls:=rb fs) (f:=fun f=>[(kF f).1,(kF f).2.1,(kF f).2.2]) (c:=fun f=>(f.name:Int)) (fun v2 H2 s2 h2=>?_) (fun R h=>h) (Walks.list (SqL.of hb)) hz (small _ (by omega)) (fun _=>rfl) (show 3 < 4 by decide) rfl (fun _=>rfl)
 obtain⟨c,rfl,_,hc⟩:=Dv.lint h2
 refine⟨_,rfl,nw S H,u,fs2,rfl,(hu.up s1).keep (Kp.of_same s2),by omega,fun v3 H3 s3 h3=>?_⟩
 obtain⟨d,ys,rfl,_,hd,hy⟩:=h3.wM
 refine⟨d,rfl,⟨_,SqL.of hd⟩,?_⟩
 have hc3:=s3 _ _ hc
 have hyl:ys.length=(rb fs2).length:=by rw[hy.len,ae]
 refine mI (K:=K) (a:=d) (xs:=ys) (fun i σ H'=>H'=H3∧(∃ y,σ=[some v,some u,some (.ref c),y])∧∀ y∈(rb fs2).take i,((rb fs).map fun x=>x.name).contains y.name=true) ⟨rfl,⟨_,rfl⟩,by simp⟩ (fun i σ H' _ h=>by rw[h.1];exact SqL.of hd) ?_ ?_
 ·rintro i y σ H' hi ⟨rfl,⟨w,rfl⟩,hj⟩
  obtain⟨d1,hd1,hy1⟩:=hy.get hi
  obtain⟨g,hg,rfl⟩:=cx hd1
  obtain⟨e,rfl,he⟩:=Dv.m8 hy1
  refine⟨_,rfl,e,_,_,_,rfl,rfl,SqT.of he,aF (j:=0) rfl,?_⟩
  refine⟨_,rfl,c,_,rfl,.inl (SqL.of hc3),rfl,?_,_,rfl,?_⟩
  ·rw[bQ]
   intro z hz
   obtain⟨n,_,rfl⟩:=ay.mp hz
   rfl
  show if (!inV (.int (g.name:Int)) (((rb fs).map fun f=>(f.name:Int)).map V.int))=true then _ else _
  rw[C9,UL]
  refine qx (fun h=>?_) (fun h=>?_)
  ·have h:((rb fs).map fun x=>x.name).contains g.name=false:=by simpa using h
   have:sZ fs fs2=true:=by
    unfold sZ
    rw[jO]
    exact⟨g,a7 hg,by rw[h];rfl⟩
   rw[this] at k
   exact k _ ((s1.trans s2).trans s3)
  ·have h:((rb fs).map fun x=>x.name).contains g.name=true:=by simpa using h
   refine⟨rfl,⟨_,rfl⟩,fun z hz=>?_⟩
   rw[cV hg] at hz
   rcases az.mp hz with q | q
   ·exact hj z q
   ·have:z=g:=by simpa using q
    rw[this]
    exact h
 ·rintro σ H' ⟨rfl,⟨w,rfl⟩,hj⟩
  rw[hyl,cz] at hj
  have:sZ fs fs2=false:=by
   unfold sZ
   rw[List.any_eq_false]
   intro y hy
   rw[hj y hy]
   decide
  rw[this] at k
  exact k _ ((s1.trans s2).trans s3)
end
end U
namespace U
open PySem PySem.Spec PyProof.Rows L2
open PySem.W (Codec)
open Ways
section
variable {P:Program}{w:World}{K:ai}{mg:Str→Option Value}{base:Heap}{t:Adr}
def byF (n:Nat) (w:a3) (f:b8):Option (Nat×a3):=if f.name=n then some (n,w) else if f.opt then none else some (f.name,i9 f.of_)
theorem yh {S S':Addr→Prop}{H:Hp}{v:V}{w:a3} (h:Dv S H v (e9 w)):Dv S' H v (e9 w):=by
 obtain⟨a,rfl,ha⟩:=Dv.m8 (ns:=[w.1,w.2]) h
 exact .tup ha (bh.ints [w.1,w.2])
structure Own (S:Addr→Prop) (H H1:Hp) (a:Addr) (xs:List V) (ds:List D):Prop where
 same:bg H H1
 at_:H1 a=some (.lst xs)
 new:H a=none
 all:bh (fun b=>nw S H b∧b≠a) H1 xs ds
theorem Own.start {S:Addr→Prop}{H:Hp}{a:Addr} (h:H a=none):Own S H (upd H a (.lst [])) a [] []:=⟨bg.new h,aE,h,.nil⟩
theorem Own.step {S:Addr→Prop}{H H1 H2:Hp}{a:Addr}{xs:List V}{ds:List D} (o:Own S H H1 a xs ds) (s:bg H1 H2):Own S H H2 a xs ds:=⟨o.same.trans s,s _ _ o.at_,o.new,o.all.keep (Kp.of_same s)⟩
theorem Own.push {S:Addr→Prop}{H H1 H2:Hp}{a:Addr}{xs:List V}{ds:List D}{v:V}{d:D} (o:Own S H H1 a xs ds) (s:bg H1 H2) (h:Dv (nw (fun b=>nw S H b∧b≠a) H1) H2 v d):Own S H (upd H2 a (.lst (xs++[v]))) a (xs++[v]) (ds++[d]):=by
 have ha5:=s _ _ o.at_
 have kp:Kp (fun b=>nw S H b∧b≠a) H2 (upd H2 a (.lst (xs++[v]))):=Kp.put ha5 (fun _ z=>by cases z) (fun z=>z.2 rfl)
 refine⟨fun b u e=>by rw[aN (bf e o.new)];exact(o.same.trans s) _ _ e,aE,o.new,((o.all.keep (Kp.of_same s)).keep kp).append (.cons ?_ .nil)⟩
 refine(h.sub fun b hb=>?_).keep kp
 rcases hb with hb | hb
 ·exact hb
 ·exact⟨.inr (o.same.non b hb),fun z=>by rw[z,o.at_] at hb;cases hb⟩
theorem Own.dv {S:Addr→Prop}{H H1:Hp}{a:Addr}{xs:List V}{ds:List D} (o:Own S H H1 a xs ds):Dv (nw S H) H1 (.ref a) (.l ds):=.lst (.inr o.new) o.at_ (o.all.sub fun b h=>h.1)
theorem tj {α β:Type}{l:List α}{f:α→Option β}{i:Nat}{x:α} (h:l[i]?=some x):(l.take (i+1)).filterMap f=(l.take i).filterMap f++(match f x with | some y=>[y] | none=>[]):=by
 rw[cV h,lr]
 congr 1
 rw[cF]
 cases f x<;>rfl
def FI:Sp:=fun vs H Q _=>Ex6 fun(S:Addr→Prop) (v u:V) (fs:List b8) (n:Nat) (w:a3)=>vs=[v,.int n,u]∧Dv S H v (.t (fs.map jL))∧Dv S H u (e9 w)∧fs.length≤8∧New S H (kQ (oz fs n w)) Q
theorem FX (T:Txt K mg t):cI P w K mg base CX0 2 t.jo t.k7 ["fields","name","want"] FI:=by
 refine T.lg.ok qS (fun vs H Q E h=>by obtain⟨_,_,_,_,_,_,e,_⟩:=h;subst e;rfl) (fun cdv A outer s H vs Q E hr h=>?_)
 obtain⟨S,v,u,fs,n,w,rfl,hv,hu,hl,k⟩:=h
 refine⟨_,(ak (bW (i:=3) qS.nd rfl (ba rfl) (bX aq))
  (ak (iW PassesOwn.never rfl (sQ (pv 0)) (cg (i:=4) qS.nd rfl (ba rfl)) (aA (b9 (bo fe (a9 aY (pv 4) aH (fun _ _=>rfl)) (pv 1) (bL _)) (aA (cw (l5 aW bB bA d5 (pv 3) (ah (dG (ah (pv 1) (ah (pv 2) aq))) aq)))) (aA (b9 (bo fe (a9 aY (pv 4) aH (fun _ _=>rfl)) aH (bL _)) (aA (cw (l5 aW bB bA d5 (pv 3) (ah (dG (ah (a9 aY (pv 4) aH (fun _ _=>rfl)) (ah (bG (pI T) (hr.mono (by decide)) rfl T.tH T.lj.kp T.tJ .nil bw (ah (a9 aY (pv 4) aH (fun _ _=>rfl)) aq)) aq))) aq)))) bp)))))
  (aA (a6 (bG (Az T) (hr.mono (by decide)) rfl T.DE T.lY.kp T.DI .nil bw (ah (pv 3) aq)))))),?_⟩
 obtain⟨p,xs,rfl,hp,hx⟩:=hv.tupI
 have hxl:xs.length=fs.length:=by rw[hx.len,ae]
 refine⟨aT _,fun a ha=>?_⟩
 have s0:=bg.new (o:=.lst []) ha
 refine⟨_,rfl,p,rfl,⟨_,SqT.of (s0 _ _ hp)⟩,?_⟩
 refine GP (K:=K) (a:=p) (xs:=xs) (fun i σ H'=>(∃ y,σ=[some (.ref p),some (.int n),some u,some (.ref a),y])∧∃ ys,ys.length≤i∧Own S H H' a ys (((fs.take i).filterMap (byF n w)).map Qj)) ⟨⟨_,rfl⟩,[],aB _,Own.start ha⟩ (fun i σ H' _ h=>by obtain⟨_,ys,_,o⟩:=h;exact SqT.of (o.same _ _ hp)) ?_ ?_
 ·rintro i y σ H1 hi ⟨⟨z,rfl⟩,ys,hyl,o⟩
  have hil:i < 8:=by
   have:=(aP.mp hi).1
   omega
  obtain⟨d1,hd1,hy1⟩:=hx.get hi
  obtain⟨f,hf,rfl⟩:=cx hd1
  obtain⟨e,rfl,he⟩:=Dv.m8 hy1
  have he1:=o.same _ _ he
  refine⟨_,rfl,e,_,_,_,rfl,rfl,SqT.of he1,aF (j:=0) rfl,_,rfl,rfl,_,rfl,?_⟩
  show if decide (V.int (f.name:Int)=V.int (n:Int))=true then _ else _
  by_cases hn:f.name=n
  ·refine nz (by rw[hn]) ?_
   have hb:byF n w f=some (n,w):=by unfold byF;rw[if_pos hn]
   refine⟨_,rfl,.inl ⟨rfl,_,SqL.of o.at_⟩,_,rfl,_,rfl,?_⟩
   refine mkT (S:=fun b=>nw S H b∧b≠a) (.cons (.int (n:Int)) (.cons (yh (hu.keep (Kp.of_same o.same))) .nil)) (show 2≤1000000 by decide) fun p2 s2 h2=>?_
   refine⟨a,ys,_,rfl,rfl,s2 _ _ o.at_,small _ (by omega),⟨⟨_,rfl⟩,ys++[.ref p2],by rw[au];exact B4 hyl 1,?_⟩⟩
   rw[tj hf,hb,aJ]
   exact o.push s2 h2
  ·refine c5 (by omega) ?_
   refine⟨_,rfl,e,_,_,_,rfl,rfl,SqT.of he1,aF (j:=1) rfl,rfl,_,rfl,?_⟩
   show if decide (V.int (if f.opt then 1 else 0)=V.int 0)=true then _ else _
   cases ho:f.opt with
   | true=>
     have hb:byF n w f=none:=by unfold byF;rw[if_neg hn,if_pos ho]
     refine c5 (by decide) ⟨⟨_,rfl⟩,ys,by omega,?_⟩
     rw[tj hf,hb,cq]
     exact o
   | false=>
     have hb:byF n w f=some (f.name,i9 f.of_):=by unfold byF;rw[if_neg hn,if_neg (by rw[ho];decide)]
     refine nz rfl ?_
     refine⟨_,rfl,.inl ⟨rfl,_,SqL.of o.at_⟩,?_⟩
     refine⟨_,rfl,e,_,_,_,rfl,rfl,SqT.of he1,aF (j:=0) rfl,?_⟩
     refine⟨_,rfl,e,_,_,_,rfl,rfl,SqT.of he1,aF (j:=2) rfl,(fun b=>nw S H b∧b≠a),f.of_,rfl,fun v3 H3 s3 h3=>?_⟩
     refine mkT (.cons (.int (f.name:Int)) (.cons h3 .nil)) (show 2≤1000000 by decide) fun p2 s2 h2=>?_
     refine⟨a,ys,_,rfl,rfl,(s3.trans s2) _ _ o.at_,small _ (by omega),⟨⟨_,rfl⟩,ys++[.ref p2],by rw[au];exact B4 hyl 1,?_⟩⟩
     rw[tj hf,hb,aJ]
     exact o.push (s3.trans s2) (h2.sub (CM s3.non))
 ·rintro σ H1 ⟨⟨z,rfl⟩,ys,hyl,o⟩
  rw[hxl,cz] at o
  have hle:(fs.filterMap (byF n w)).length≤8:=bP (List.length_filterMap_le _ _) hl
  refine⟨_,rfl,nw S H,.ref a,fs.filterMap (byF n w),rfl,o.dv,by omega,fun v2 H2 s2 h2=>?_⟩
  exact(k.after o.same) _ _ s2 h2
def l9 (fs:List b8):List (Key×V):=fs.map fun f=>((l4 (f.name:Int):Key),V.int f.of_)
theorem pairs_at {K:ai}{S:Addr→Prop}{H:Hp}:∀ {fs:List b8}{xs:List V},bh S H xs (fs.map Vb)→∃ ps:List Addr,xs=ps.map V.ref∧Paired (fun p kv=>SqT K H p [kV kv.1,kv.2]) ps (l9 fs)
 | [],_,.nil=>⟨[],rfl,.nil⟩
 | f::fs,_,.cons h a=>by
   obtain⟨ps,rfl,hp⟩:=pairs_at (K:=K) a
   obtain⟨q,rfl,hq⟩:=Dv.m8 h
   exact⟨q::ps,rfl,.cons (SqT.of hq) hp⟩
theorem GZ (fs:List b8) (n:Nat):(rU (l9 fs) (l4 (n:Int):Key)).getD (.int (-1))=.int (taken fs n):=by
 unfold taken
 induction fs with
 | nil=>rfl
 | cons f fs ih=>
   have e:l9 (f::fs)=((l4 (f.name:Int):Key),V.int f.of_)::l9 fs:=rfl
   rw[e,eM]
   by_cases h:f.name=n
   ·subst h
    rw[uU rfl]
    simp
   ·rw[uV (fun z=>h (by have:=zp z;omega)),ih]
    have:(f.name == n)=false:=by simp[h]
    rw[this]
theorem Fj:∀ (kvs acc:List (Key×V)),((acc++kvs).map (·.1)).Nodup→nv acc kvs=acc++kvs
 | [],acc,_=>by rw[cq];rfl
 | kv::kvs,acc,h=>by
   have hn:rU acc kv.1=none:=by
    cases e:rU acc kv.1 with
    | none=>rfl
    | some v=>
      have hm:=Vv e
      rw[aJ,aU] at h
      exact absurd rfl ((ly.mp h).2.2 _ hm _ (aI ..))
   show nv (putK acc kv.1 kv.2) kvs=_
   rw[Oa kv.2 hn]
   show nv (acc++[kv]) kvs=_
   rw[Fj kvs (acc++[kv]) (by rw[bK];exact h),bK]
   rfl
theorem Cc {fs:List b8} (nd:(fs.map fun f=>f.name).Nodup):nv [] (l9 fs)=l9 fs:=by
 rw[Fj _ _ ?_,dm]
 rw[dm]
 unfold l9
 rw[bt]
 have e:((fun x:Key×V=>x.1)∘fun(f:b8)=>((l4 (f.name:Int):Key),V.int f.of_))=(fun n:Nat=>(l4 (n:Int):Key))∘fun f=>f.name:=rfl
 rw[e,← bt]
 exact List.Pairwise.map _ (fun a b hab z=>hab (by have:=zp z;omega)) nd
def wg:Sp:=fun vs H Q _=>Ex5 fun(S:Addr→Prop) (v u:V) (fs fs2:List b8)=>vs=[v,u]∧Dv S H v (kM (.record fs))∧Dv S H u (kM (.record fs2))∧Good (.record fs)∧Good (.record fs2)∧New S H (.l ((mX (.record fs) (.record fs2)).map kQ)) Q
theorem wI (T:Txt K mg t):cI P w K mg base CX0 3 t.dC t.eE ["form","other"] wg:=by
 refine T.eI.ok cW (fun vs H Q E h=>by obtain⟨_,_,_,_,_,e,_⟩:=h;subst e;rfl) (fun cdv A outer s H vs Q E hr h=>?_)
 obtain⟨S,v,u,fs,fs2,rfl,hv,hu,hg,hg2,k⟩:=h
 have hu':=AF hr
 obtain⟨p,xs,rfl,hp,_,b,ys,rfl,hb,hy⟩:=ud hv
 obtain⟨q,xs2,rfl,hq,_,c,ys2,rfl,hc,hy2⟩:=ud hu
 have hu:=hu'
 refine⟨_,(ak (b9 (uE (bG (Br T) (hr.mono (by decide)) rfl T.DG T.iO.kp T.DK .nil bw (ah (a9 aY (pv 0) aH (fun _ _=>rfl)) (ah (a9 aY (pv 1) aH (fun _ _=>rfl)) aq)))) (aA (a6 (bG (sT T) (hr.mono (by decide)) rfl T.uO T.iZ.kp T.uP .nil bw (ah (pv 0) aq)))) bp)
  (ak (bW (i:=2) cW.nd rfl (ba rfl) (vb (QM rfl) (by rfl) T.Vk (by rfl) (ah (rE (own:=[("field",3)]) rfl cW.nd (sQ (a9 aY (pv 1) aH (fun _ _=>rfl))) (show lp oY (aL g6) _ _ from⟨rfl,by decide +kernel,by decide +kernel,by decide +kernel,by decide +kernel⟩) (fun _ _ _ _ _=>(cg (i:=3) cW.nd rfl (ba rfl))) (fun _ _ _ _ _=>iA) (fun _ _ _ _ _=>(dG (ah (a9 (r:=tR K) aY (pv 3) aH (fun _ _=>rfl)) (ah (a9 (r:=tR K) aY (pv 3) aH (fun _ _=>rfl)) aq))))) aq)))
  (ak (bW (i:=4) cW.nd rfl (ba rfl) (bX aq))
  (ak (iW PassesOwn.never rfl (sQ (a9 aY (pv 0) aH (fun _ _=>rfl))) (cg (i:=3) cW.nd rfl (ba rfl)) (ak (bW (i:=5) cW.nd rfl (ba rfl) (dG (ah (a9 aY (pv 3) aH (fun _ _=>rfl)) (ah (Of hu (pv 2) (a9 aY (pv 3) aH (fun _ _=>rfl)) (bz rfl T.zo T.zl) ⟨rfl,rfl,rfl,rfl⟩) aq))))
  (aA (cw (l5 aW bB bA d5 (pv 4) (ah (bG (FX T) (hr.mono (by decide)) rfl T.Jp T.lg.kp T.Jx .nil bw (ah (a9 aY (pv 0) aH (fun _ _=>rfl)) (ah (a9 aY (pv 3) aH (fun _ _=>rfl)) (ah (pv 5) aq)))) aq))))))
  (aA (a6 (pv 4))))))),?_⟩
 have k:New S H (.l ((if sZ fs fs2 then jF (.record fs) else fs.map fun f=>oz fs f.name ((f.of_:Int),taken fs2 f.name)).map kQ)) Q:=k
 obtain⟨hl,nd⟩:=hg
 obtain⟨hl2,nd2⟩:=hg2
 have hyl:ys.length=fs.length:=by rw[hy.len,ae]
 have Zr:ys2.length=fs2.length:=by rw[hy2.len,ae]
 refine⟨_,rfl,p,_,_,_,rfl,rfl,SqT.of hp,aF (j:=1) rfl,?_⟩
 refine⟨_,rfl,q,_,_,_,rfl,rfl,SqT.of hq,aF (j:=1) rfl,S,.ref b,.ref c,fs,fs2,rfl,.tup hb hy,.tup hc hy2,hl,hl2,fun H1 s1=>⟨_,rfl,?_⟩⟩
 cases hL:sZ fs fs2 with
 | true=>
   rw[hL,if_pos rfl] at k
   refine uL ?_
   exact⟨_,rfl,nw S H,.ref p,.record fs,rfl,hv.up s1,⟨hl,nd⟩,fun v2 H2 s2 h2=>(k.after s1) _ _ s2 h2⟩
 | false=>
   rw[hL,if_neg (by simp)] at k
   refine z0 ?_
   dsimp only[NO,RY,PV,tCB,Ha,LX]
   have hc1:=s1 _ _ hc
   have hq1:=s1 _ _ hq
   refine uK (S:=nw S H) (ds:=fs2.map Vb) (fun v2 H2 s2 h2=>?_) (fun R h=>⟨_,rfl,q,_,_,_,rfl,rfl,SqT.of hq1,aF (j:=1) rfl,c,rfl,⟨_,SqT.of hc1⟩,h⟩) (Walks.tup (SqT.of hc1)) (by rw[Zr,ae]) (by rw[Zr];exact small _ (by omega)) ?_
   ·obtain⟨l,zs,rfl,_,hlz,hz⟩:=h2.wM
    obtain⟨ps,rfl,hps⟩:=pairs_at (K:=K) hz
    refine⟨l,ps,l9 fs2,rfl,SqL.of hlz,hps,fun d hd=>?_⟩
    rw[Cc nd2]
    have s3:=bg.new (o:=.dK (l9 fs2)) hd
    have s03:bg H _:=(s1.trans s2).trans s3
    refine⟨aT _,fun a ha=>?_⟩
    have s4:=bg.new (o:=.lst []) ha
    have s04:=s03.trans s4
    have hb4:=s04 _ _ hb
    have hp4:=s04 _ _ hp
    have hd4:=s4 _ _ (aE (H:=H2) (a:=d) (o:=.dK (l9 fs2)))
    have haH:H a=none:=s03.non a ha
    have o4:Own S H _ a [] []:=⟨s04,aE,haH,.nil⟩
    refine⟨_,rfl,p,_,_,_,rfl,rfl,SqT.of hp4,aF (j:=1) rfl,b,rfl,⟨_,SqT.of hb4⟩,?_⟩
    refine GP (K:=K) (a:=b) (xs:=ys) (fun i σ H'=>(∃ y z,σ=[some (.ref p),some (.ref q),some (.ref d),y,some (.ref a),z])∧H' d=some (.dK (l9 fs2))∧∃ zs,zs.length=i∧Own S H H' a zs (((fs.take i).map fun f=>oz fs f.name ((f.of_:Int),taken fs2 f.name)).map kQ)) ⟨⟨_,_,rfl⟩,hd4,[],rfl,o4⟩ (fun i σ H' _ h=>by obtain⟨_,_,zs,_,o⟩:=h;exact SqT.of (o.same _ _ hb)) ?_ ?_
    ·rintro i y σ H5 hi ⟨⟨y',z',rfl⟩,hd5,zs,hzl,o⟩
     have hil:i < 8:=by
      have:=(aP.mp hi).1
      omega
     obtain⟨d1,hd1,hy1⟩:=hy.get hi
     obtain⟨f,hf,rfl⟩:=cx hd1
     obtain⟨e,rfl,he⟩:=Dv.m8 hy1
     have he5:=o.same _ _ he
     refine⟨_,rfl,e,_,_,_,rfl,rfl,SqT.of he5,aF (j:=2) rfl,?_⟩
     refine⟨_,rfl,d,rfl,.inl ⟨_,.inl hd5⟩,?_⟩
     refine⟨_,rfl,e,_,_,_,rfl,rfl,SqT.of he5,aF (j:=0) rfl,_,oO.k (k:=l4 (f.name:Int)) hd5,?_⟩
     rw[GZ]
     refine mkT (S:=fun b=>nw S H b∧b≠a) (bh.ints [(f.of_:Int),taken fs2 f.name]) (show 2≤1000000 by decide) fun p6 s6 h6=>?_
     have o6:=o.step s6
     refine⟨_,rfl,.inl ⟨rfl,_,SqL.of o6.at_⟩,?_⟩
     refine⟨_,rfl,p,_,_,_,rfl,rfl,SqT.of (o6.same _ _ hp),aF (j:=1) rfl,?_⟩
     refine⟨_,rfl,e,_,_,_,rfl,rfl,SqT.of (s6 _ _ he5),aF (j:=0) rfl,?_⟩
     refine⟨_,rfl,(fun b=>nw S H b∧b≠a),.ref b,.ref p6,fs,f.name,((f.of_:Int),taken fs2 f.name),rfl,.tup (o6.same _ _ hb) ?_,yh h6,hl,fun v7 H7 s7 h7=>?_⟩
     ·exact Di (f:=fun f=>[(kF f).1,(kF f).2.1,(kF f).2.2]) _ (hy.keep (Kp.of_same o6.same))
     ·have o7:=o6.step s7
      refine⟨a,zs,v7,rfl,rfl,o7.at_,small _ (by omega),⟨⟨_,_,rfl⟩,?_,zs++[v7],by rw[au,hzl];rfl,?_⟩⟩
      ·rw[aN (cu hd5 o.at_ (by intro z;cases z))]
       exact(s6.trans s7) _ _ hd5
      ·rw[cV hf,aJ,aJ]
       exact o6.push s7 h7
    ·rintro σ H5 ⟨⟨y',z',rfl⟩,hd5,zs,hzl,o⟩
     rw[hyl,cz] at o
     exact⟨_,rfl,k _ _ o.same o.dv⟩
   ·intro i v d H3 hv3 hd3 s3 Z W hZ
    obtain⟨f,hf,rfl⟩:=cx hd3
    obtain⟨d2,hd2,hvd⟩:=hy2.get hv3
    obtain⟨f',hf',rfl⟩:=cx hd2
    rw[hf] at hf'
    obtain rfl:=aa hf'
    obtain⟨e,rfl,he⟩:=Dv.m8 hvd
    have he3:=(s1.trans s3) _ _ he
    refine⟨rfl,LU ?_⟩
    refine⟨_,rfl,e,_,_,_,rfl,rfl,SqT.of he3,aF (j:=0) rfl,?_⟩
    refine⟨_,rfl,e,_,_,_,rfl,rfl,SqT.of he3,aF (j:=2) rfl,?_⟩
    exact mkT (bh.ints [(f.name:Int),(f.of_:Int)]) (show 2≤1000000 by decide) fun p6 s6 h6=>hZ _ _ s6 h6
end
end U
namespace U
open PySem PySem.Spec PyProof.Rows L2
open PySem.W (Codec)
open Ways
section
variable {P:Program}{w:World}{K:ai}{mg:Str→Option Value}{base:Heap}{t:Adr}
def wj:Sp:=fun vs H Q _=>Ex5 fun(S:Addr→Prop) (v u:V) (fs fs2:List b8)=>vs=[v,u]∧Dv S H v (kM (.choice fs))∧Dv S H u (kM (.choice fs2))∧Good (.choice fs)∧Good (.choice fs2)∧New S H (.l ((mX (.choice fs) (.choice fs2)).map kQ)) Q
theorem wJ (T:Txt K mg t):cI P w K mg base CX0 2 t.dD t.eF ["form","other"] wj:=by
 refine T.eJ.ok gi (fun vs H Q E h=>by obtain⟨_,_,_,_,_,e,_⟩:=h;subst e;rfl) (fun cdv A outer s H vs Q E hr h=>?_)
 obtain⟨S,v,u,fs,fs2,rfl,hv,hu,hg,hg2,k⟩:=h
 have hu':=AF hr
 obtain⟨p,xs,rfl,hp,_,b,ys,rfl,hb,hy⟩:=ud hv
 obtain⟨q,xs2,rfl,hq,_,c,ys2,rfl,hc,hy2⟩:=ud hu
 have hu:=hu'
 refine⟨_,(ak (bW (i:=2) gi.nd rfl (Or.inr rfl) (vb (QL rfl) (by rfl) T.Vk (by rfl) (ah (a9 aY (pv 1) aH (fun _ _=>rfl)) aq)))
  (aA (a6 (rE (own:=[("one",3)]) rfl gi.nd (sQ (a9 aY (pv 0) aH (fun _ _=>rfl))) (show lp oZ (aL g7) _ _ from⟨rfl,by decide +kernel,by decide +kernel,by decide +kernel,by decide +kernel⟩) (fun _ _ _ _ _=>(cg (i:=3) gi.nd rfl (ba rfl))) (fun _ _ _ _ _=>iA) (fun _ _ _ _ _=>(bG (AA T) (hr.mono (by decide)) rfl T.DH T.lZ.kp T.DL .nil bw (ah (a9 (r:=tR K) aY (pv 3) aH (fun _ _=>rfl)) (ah (dG (ah (a9 (r:=tR K) aY (pv 3) aH (fun _ _=>rfl)) (ah (Of hu (pv 2) (a9 (r:=tR K) aY (pv 3) aH (fun _ _=>rfl)) (bz rfl T.zo T.zl) ⟨rfl,rfl,rfl,rfl⟩) aq))) aq)))))))),?_⟩
 have k:New S H (.l ((fs.map fun f=>iw f.name ((f.of_:Int),taken fs2 f.name)).map kQ)) Q:=k
 obtain⟨hl,nd⟩:=hg
 obtain⟨hl2,nd2⟩:=hg2
 have hyl:ys.length=fs.length:=by rw[hy.len,ae]
 obtain⟨ps,rfl,hps⟩:=pairs_at (K:=K) hy2
 refine⟨_,rfl,q,_,_,_,rfl,rfl,SqT.of hq,aF (j:=1) rfl,c,ps,l9 fs2,rfl,hc,hps,fun d hd=>?_⟩
 rw[Cc nd2]
 have s1:=bg.new (o:=.dK (l9 fs2)) hd
 have hd1:upd H d (.dK (l9 fs2)) d=some (.dK (l9 fs2)):=aE
 have hp1:=s1 _ _ hp
 have hb1:=s1 _ _ hb
 dsimp only[LW]
 refine uK (S:=nw S H) (k.after s1) (fun R h=>⟨_,rfl,p,_,_,_,rfl,rfl,SqT.of hp1,aF (j:=1) rfl,b,rfl,⟨_,SqT.of hb1⟩,h⟩) (Walks.tup (SqT.of hb1)) (by rw[hyl,ae,ae]) (by rw[hyl];exact small _ (by omega)) ?_
 intro i v d3 H3 hv3 hd3 s3 Z W hZ
 obtain⟨x,hx,rfl⟩:=cx hd3
 obtain⟨f,hf,rfl⟩:=cx hx
 obtain⟨d2,hd2,hvd⟩:=hy.get hv3
 obtain⟨f',hf',rfl⟩:=cx hd2
 rw[hf] at hf'
 obtain rfl:=aa hf'
 obtain⟨e,rfl,he⟩:=Dv.m8 hvd
 have he3:=(s1.trans s3) _ _ he
 have hd3:=s3 _ _ hd1
 refine⟨rfl,LU ?_⟩
 refine⟨_,rfl,e,_,_,_,rfl,rfl,SqT.of he3,aF (j:=0) rfl,?_⟩
 refine⟨_,rfl,e,_,_,_,rfl,rfl,SqT.of he3,aF (j:=1) rfl,?_⟩
 refine⟨_,rfl,d,rfl,.inl ⟨_,.inl hd3⟩,?_⟩
 refine⟨_,rfl,e,_,_,_,rfl,rfl,SqT.of he3,aF (j:=0) rfl,_,oO.k (k:=l4 (f.name:Int)) hd3,?_⟩
 rw[GZ]
 refine mkT (S:=on (nw S H) (upd H d (.dK (l9 fs2)))) (bh.ints [(f.of_:Int),taken fs2 f.name]) (show 2≤1000000 by decide) fun p6 s6 h6=>?_
 exact⟨_,f.name,.ref p6,((f.of_:Int),taken fs2 f.name),rfl,h6,fun v7 H7 s7 h7=>hZ _ _ (s6.trans s7) (h7.sub (CM s6.non))⟩
def FH:Sp:=fun vs H Q _=>Ex5 fun(S:Addr→Prop) (v u:V) (x y:cp)=>vs=[v,u]∧Dv S H v (kM x)∧Dv S H u (kM y)∧Good x∧Good y∧New S H (.l ((mX x y).map kQ)) Q
theorem Zg {x y:Int}{A B:Prop} (h:x≠y) (a:A):if (!decide (V.int x=V.int y))=true then A else B:=by
 rw[if_pos (by rw[decide_eq_false (fun z=>h (by injection z))];rfl)]
 exact a
theorem aaf {x:Int}{A B:Prop} (b:B):if (!decide (V.int x=V.int x))=true then A else B:=by
 rw[if_neg (by rw[decide_eq_true rfl];decide)]
 exact b
theorem JA {x y:cp} (h:kindOf x≠kindOf y):mX x y=jF x:=by
 cases x<;>cases y<;>first | rfl | exact absurd rfl h
theorem FW (T:Txt K mg t):cI P w K mg base CX0 4 t.jn t.k6 ["form","other"] FH:=by
 refine T.lb.ok FK (fun vs H Q E h=>by obtain⟨_,_,_,_,_,e,_⟩:=h;subst e;rfl) (fun cdv A outer s H vs Q E hr h=>?_)
 obtain⟨S,v,u,x,y,rfl,hv,hu,hg,hg2,k⟩:=h
 refine⟨_,(ak (b9 (bo Y8 (a9 aY (pv 0) aH (fun _ _=>rfl)) (a9 aY (pv 1) aH (fun _ _=>rfl)) (bL _)) (aA (a6 (bG (sT T) (hr.mono (by decide)) rfl T.uO T.iZ.kp T.uP .nil bw (ah (pv 0) aq)))) bp)
  (ak (b9 (bo fe (a9 aY (pv 0) aH (fun _ _=>rfl)) (bz rfl T.qG T.qF) (bL _)) (aA (a6 (bG (zP T) (hr.mono (by decide)) rfl T.BQ T.gS.kp T.BU .nil bw (ah (pv 0) (ah (pv 1) aq))))) bp)
  (ak (b9 (bo fe (a9 aY (pv 0) aH (fun _ _=>rfl)) (bz rfl T.oG T.oB) (bL _)) (aA (a6 (bG (yI T) (hr.mono (by decide)) rfl T.Ag T.fV.kp T.Ak .nil bw (ah (pv 0) (ah (pv 1) aq))))) bp)
  (ak (b9 (bo fe (a9 aY (pv 0) aH (fun _ _=>rfl)) (bz rfl T.lX T.lU) (bL _)) (aA (a6 (bG (yJ T) (hr.mono (by decide)) rfl T.Ah T.fW.kp T.Al .nil bw (ah (pv 0) (ah (pv 1) aq))))) bp)
  (ak (b9 (bo fe (a9 aY (pv 0) aH (fun _ _=>rfl)) (bz rfl T.jz T.jx) (bL _)) (aA (a6 (bG (wI T) (hr.mono (by decide)) rfl T.xR T.eI.kp T.xT .nil bw (ah (pv 0) (ah (pv 1) aq))))) bp)
  (aA (a6 (bG (wJ T) (hr.mono (by decide)) rfl T.xS T.eJ.kp T.xU .nil bw (ah (pv 0) (ah (pv 1) aq)))))))))),?_⟩
 obtain⟨p,xs,rfl,hp,h0,hx⟩:=ud hv
 obtain⟨q,xs2,rfl,hq,h02,hx2⟩:=ud hu
 refine⟨_,rfl,p,_,_,_,rfl,rfl,SqT.of hp,aF (j:=0) h0,?_⟩
 refine⟨_,rfl,q,_,_,_,rfl,rfl,SqT.of hq,aF (j:=0) h02,rfl,_,rfl,?_⟩
 by_cases hk:kindOf x=kindOf y
 ·show if (!decide (V.int (kindOf x)=V.int (kindOf y)))=true then _ else _
  rw[← hk]
  refine aaf ?_
  cases x with
  | num lo hi=>
    cases y with
    | num lo2 hi2=>
      refine⟨_,rfl,p,_,_,_,rfl,rfl,SqT.of hp,aF (j:=0) h0,rfl,_,rfl,nz rfl ?_⟩
      exact⟨_,rfl,_,rfl,S,_,_,lo,hi,lo2,hi2,rfl,hv,hu,k⟩
    | _=>exact absurd hk (by simp[kindOf])
  | text m=>
    cases y with
    | text m2=>
      refine⟨_,rfl,p,_,_,_,rfl,rfl,SqT.of hp,aF (j:=0) h0,rfl,_,rfl,c5 (by simp[kindOf]) ?_⟩
      refine⟨_,rfl,p,_,_,_,rfl,rfl,SqT.of hp,aF (j:=0) h0,rfl,_,rfl,nz rfl ?_⟩
      exact⟨_,rfl,_,rfl,S,_,_,m,m2,rfl,hv,hu,hg,k⟩
    | _=>exact absurd hk (by simp[kindOf])
  | list o lo hi=>
    cases y with
    | list o2 lo2 hi2=>
      refine⟨_,rfl,p,_,_,_,rfl,rfl,SqT.of hp,aF (j:=0) h0,rfl,_,rfl,c5 (by simp[kindOf]) ?_⟩
      refine⟨_,rfl,p,_,_,_,rfl,rfl,SqT.of hp,aF (j:=0) h0,rfl,_,rfl,c5 (by simp[kindOf]) ?_⟩
      refine⟨_,rfl,p,_,_,_,rfl,rfl,SqT.of hp,aF (j:=0) h0,rfl,_,rfl,nz rfl ?_⟩
      exact⟨_,rfl,_,rfl,S,_,_,o,lo,hi,o2,lo2,hi2,rfl,hv,hu,hg.1,hg.2,k⟩
    | _=>exact absurd hk (by simp[kindOf])
  | record fs=>
    cases y with
    | record fs2=>
      refine⟨_,rfl,p,_,_,_,rfl,rfl,SqT.of hp,aF (j:=0) h0,rfl,_,rfl,c5 (by simp[kindOf]) ?_⟩
      refine⟨_,rfl,p,_,_,_,rfl,rfl,SqT.of hp,aF (j:=0) h0,rfl,_,rfl,c5 (by simp[kindOf]) ?_⟩
      refine⟨_,rfl,p,_,_,_,rfl,rfl,SqT.of hp,aF (j:=0) h0,rfl,_,rfl,c5 (by simp[kindOf]) ?_⟩
      refine⟨_,rfl,p,_,_,_,rfl,rfl,SqT.of hp,aF (j:=0) h0,rfl,_,rfl,nz rfl ?_⟩
      exact⟨_,rfl,_,rfl,S,_,_,fs,fs2,rfl,hv,hu,hg,hg2,k⟩
    | _=>exact absurd hk (by simp[kindOf])
  | choice fs=>
    cases y with
    | choice fs2=>
      refine⟨_,rfl,p,_,_,_,rfl,rfl,SqT.of hp,aF (j:=0) h0,rfl,_,rfl,c5 (by simp[kindOf]) ?_⟩
      refine⟨_,rfl,p,_,_,_,rfl,rfl,SqT.of hp,aF (j:=0) h0,rfl,_,rfl,c5 (by simp[kindOf]) ?_⟩
      refine⟨_,rfl,p,_,_,_,rfl,rfl,SqT.of hp,aF (j:=0) h0,rfl,_,rfl,c5 (by simp[kindOf]) ?_⟩
      refine⟨_,rfl,p,_,_,_,rfl,rfl,SqT.of hp,aF (j:=0) h0,rfl,_,rfl,c5 (by simp[kindOf]) ?_⟩
      exact⟨_,rfl,_,rfl,S,_,_,fs,fs2,rfl,hv,hu,hg,hg2,k⟩
    | _=>exact absurd hk (by simp[kindOf])
 ·refine Zg hk ?_
  rw[JA hk] at k
  exact⟨_,rfl,S,_,x,rfl,hv,hg,k⟩
def Pd (b:ax):D:=.l (b.map kM)
theorem IL {b:ax}{s:Nat} (h:s < b.length):(b.map kM)[s]?=some (kM (qP b s)):=by
 rw[bq,aK h]
 unfold qP
 rw[cf,aK h]
 rfl
def P2:Sp:=fun vs H Q _=>Ex5 fun(S:Addr→Prop) (v u:V) (b:ax) (w:a3)=>vs=[v,u]∧Dv S H v (Pd b)∧Dv S H u (e9 w)∧inB b w∧(∀ x∈b,Good x)∧New S H (.l ((eB b w).map kQ)) Q
theorem Qg (T:Txt K mg t):cI P w K mg base CX0 5 t.sx t.vC ["told","want"] P2:=by
 refine T.vS.ok P6 (fun vs H Q E h=>by obtain⟨_,_,_,_,_,e,_⟩:=h;subst e;rfl) (fun cdv A outer s H vs Q E hr h=>?_)
 obtain⟨S,v,u,b,w,rfl,hv,hu,hw,hg,k⟩:=h
 refine⟨_,(ak (b9 (bo fe (a9 aY (pv 1) aH (fun _ _=>rfl)) (bz rfl T.zo T.zl) (bL _)) (aA (a6 (bG (sT T) (hr.mono (by decide)) rfl T.uO T.iZ.kp T.uP .nil bw (ah (a9 fj (pv 0) (a9 aY (pv 1) aH (fun _ _=>rfl)) (fun _ _=>rfl)) aq)))) bp)
  (aA (a6 (bG (FW T) (hr.mono (by decide)) rfl T.Jo T.lb.kp T.Jw .nil bw (ah (a9 fj (pv 0) (a9 aY (pv 1) aH (fun _ _=>rfl)) (fun _ _=>rfl)) (ah (a9 fj (pv 0) (a9 aY (pv 1) aH (fun _ _=>rfl)) (fun _ _=>rfl)) aq)))))),?_⟩
 obtain⟨l,xs,rfl,hS,hl,hx⟩:=hv.wM
 obtain⟨q,rfl,hq⟩:=Dv.m8 (ns:=[w.1,w.2]) hu
 obtain⟨⟨h0,h1⟩,h2⟩:=hw
 have e1:w.1=((w.1.toNat:Nat):Int):=by omega
 obtain⟨f,hf,hfd⟩:=hx.get' (IL h1)
 unfold eB at k
 refine⟨_,rfl,q,_,_,_,rfl,rfl,SqT.of hq,aF (j:=1) rfl,rfl,_,rfl,?_⟩
 by_cases h:w.2=-1
 ·rw[if_pos h] at k
  refine nz h ?_
  refine⟨_,rfl,_,rfl,q,_,_,_,rfl,rfl,SqT.of hq,aF (j:=0) rfl,l,_,_,_,rfl,rfl,SqL.of hl,at_of e1 hf,?_⟩
  exact⟨S,f,_,rfl,hfd,hg _ (qy h1),k⟩
 ·rw[if_neg h] at k
  have h2:=h2.resolve_left h
  have e2:w.2=((w.2.toNat:Nat):Int):=by omega
  obtain⟨g,hgg,hgd⟩:=hx.get' (IL h2.2)
  refine c5 h ?_
  refine⟨_,rfl,_,rfl,q,_,_,_,rfl,rfl,SqT.of hq,aF (j:=0) rfl,l,_,_,_,rfl,rfl,SqL.of hl,at_of e1 hf,?_⟩
  refine⟨_,rfl,_,rfl,q,_,_,_,rfl,rfl,SqT.of hq,aF (j:=1) rfl,l,_,_,_,rfl,rfl,SqL.of hl,at_of e2 hgg,?_⟩
  exact⟨S,f,g,_,_,rfl,hfd,hgd,hg _ (qy h1),hg _ (qy h2.2),k⟩
end
end U
namespace U
open PySem PySem.Spec PyProof.Rows L2
open PySem.W (Codec)
open Ways
section
variable {P:Program}{w:World}{K:ai}{mg:Str→Option Value}{base:Heap}{t:Adr}
abbrev Known:=List (a3×bR)
def jK (w:a3):List Key:=[l4 w.1,l4 w.2]
theorem IB {w u:a3} (h:jK w=jK u):w=u:=by
 obtain⟨a,b⟩:=w
 obtain⟨c,d⟩:=u
 injection h with h1 h2
 injection h2 with h2 _
 have e1:a=c:=zp h1
 have e2:b=d:=zp h2
 rw[e1,e2]
theorem qe {S:Addr→Prop}{H:Hp}{v:V}{w:a3} (h:Dv S H v (e9 w)):∃ a,v=.ref a∧H a=some (.tup ((jK w).map kV)):=Dv.m8 (ns:=[w.1,w.2]) h
def look {α:Type} (ks:List (a3×α)) (w:a3):Option α:=(ks.find? fun x=>decide (x.1=w)).map (·.2)
theorem dP {α:Type} (x:a3×α) (ks:List (a3×α)) (w:a3):look (x::ks) w=if x.1=w then some x.2 else look ks w:=by
 unfold look
 rw[eM]
 by_cases h:x.1=w
 ·rw[decide_eq_true h,if_pos h];rfl
 ·rw[decide_eq_false h,if_neg h]
theorem oa {α:Type}:∀ {ks:List (a3×α)}{w:a3}{x:α},look ks w=some x→(w,x)∈ks
 | [],w,x,h=>by cases h
 | y::ks,w,x,h=>by
   rw[dP] at h
   by_cases e:y.1=w
   ·rw[if_pos e] at h
    obtain rfl:=aa h
    subst e
    exact aI ..
   ·rw[if_neg e] at h
    exact aG _ (oa h)
theorem vn {α:Type}:∀ {ks:List (a3×α)}{w:a3},w∈ks.map (·.1)→∃ x,look ks w=some x
 | [],w,h=>by cases h
 | y::ks,w,h=>by
   rw[dP]
   by_cases e:y.1=w
   ·exact⟨_,if_pos e⟩
   ·rw[if_neg e]
    rcases aC.mp h with h | h
    ·exact absurd h.symm e
    ·exact vn h
theorem vo {α:Type}{ks:List (a3×α)}{w:a3} (h:look ks w=none):w∉ks.map (·.1):=fun m=>by
 obtain⟨x,e⟩:=vn m
 rw[h] at e
 cases e
theorem C4 {α:Type}{ks:List (a3×α)}{w:a3}{x:α} (h:look ks w=some x):w∈ks.map (·.1):=ay.mpr ⟨_,oa h,rfl⟩
theorem T6 {α:Type}{ks:List (a3×α)}{w:a3} (h:w∉ks.map (·.1)):look ks w=none:=by
 cases e:look ks w with
 | none=>rfl
 | some x=>exact absurd (C4 e) h
theorem kh {α:Type}:∀ (ks:List (a3×α)) (w:a3) (x:α) (u:a3),look ks w=none→look (ks++[(w,x)]) u=if u=w then some x else look ks u
 | [],w,x,u,_=>by
   rw[dm,dP]
   by_cases h:u=w
   ·rw[if_pos h,if_pos h.symm]
   ·rw[if_neg h,if_neg fun z=>h z.symm]
 | y::ks,w,x,u,h=>by
   rw[dP] at h
   by_cases e:y.1=w
   ·rw[if_pos e] at h;cases h
   ·rw[if_neg e] at h
    rw[mW,dP,dP,kh ks w x u h]
    by_cases k:y.1=u
    ·rw[if_pos k,if_pos k,if_neg fun z=>e (k.trans z)]
    ·rw[if_neg k,if_neg k]
def nV (l:List Nat):List V:=(nI l).map V.int
def knD:bR→D
 | none=>.non
 | some z=>.t [.i z.1,.l ((nI z.2).map D.i)]
def TabAt {α:Type} (G:V→α→Prop):List (List Key×V)→List (a3×α)→Prop:=Paired fun kv x=>kv.1=jK x.1∧G kv.2 x.2
theorem TabAt.val {α:Type}{G:V→α→Prop}{kvs:List (List Key×V)}{ks:List (a3×α)} (h:TabAt G kvs ks) (w:a3):(rU kvs (jK w)=none∧look ks w=none)∨∃ v x,rU kvs (jK w)=some v∧look ks w=some x∧G v x:=by
 induction h with
 | nil=>exact .inl ⟨rfl,rfl⟩
 | @cons kv x kvs ks hx _ ih=>
   rw[dP]
   by_cases e:x.1=w
   ·rw[if_pos e,uU (by rw[hx.1,e])]
    exact .inr ⟨_,_,rfl,rfl,hx.2⟩
   ·rw[if_neg e,uV (fun z=>e (IB (hx.1.symm.trans z)))]
    exact ih
theorem TabAt.has {α:Type}{G:V→α→Prop}{kvs:List (List Key×V)}{ks:List (a3×α)} (h:TabAt G kvs ks) (w:a3):(rU kvs (jK w)).isSome=(look ks w).isSome:=by
 rcases h.val w with ⟨e1,e2⟩ | ⟨v,x,e1,e2,_⟩
 ·rw[e1,e2];rfl
 ·rw[e1,e2];rfl
theorem TabAt.get {α:Type}{G:V→α→Prop}{kvs:List (List Key×V)}{ks:List (a3×α)} (h:TabAt G kvs ks) {w:a3}{x:α} (e:look ks w=some x):∃ v,rU kvs (jK w)=some v∧G v x:=by
 rcases h.val w with ⟨_,e2⟩ | ⟨v,y,e1,e2,g⟩
 ·rw[e] at e2;cases e2
 ·rw[e] at e2
  obtain rfl:=aa e2
  exact⟨v,e1,g⟩
theorem TabAt.non {α:Type}{G:V→α→Prop}{kvs:List (List Key×V)}{ks:List (a3×α)} (h:TabAt G kvs ks) {w:a3} (e:look ks w=none):rU kvs (jK w)=none:=by
 rcases h.val w with ⟨e1,_⟩ | ⟨v,y,e1,e2,g⟩
 ·exact e1
 ·rw[e] at e2;cases e2
theorem TabAt.imp {α:Type}{G G':V→α→Prop}{kvs:List (List Key×V)}{ks:List (a3×α)} (h:TabAt G kvs ks) (k:∀ v x,G v x→G' v x):TabAt G' kvs ks:=Paired.VX h fun a b z=>⟨z.1,k _ _ z.2⟩
theorem Paired.snoc {α β:Type}{F:α→β→Prop}:∀ {l:List α}{m:List β}{a:α}{b:β},Paired F l m→F a b→Paired F (l++[a]) (m++[b])
 | _,_,_,_,.nil,h=>.cons h .nil
 | _,_,_,_,.cons r t,h=>.cons r (Paired.snoc t h)
theorem TabAt.snoc {α:Type}{G:V→α→Prop}{kvs:List (List Key×V)}{ks:List (a3×α)} (h:TabAt G kvs ks) {w:a3}{v:V}{x:α} (e:look ks w=none) (g:G v x):TabAt G (putK kvs (jK w) v) (ks++[(w,x)]):=by
 rw[Oa v (h.non e)]
 exact Paired.snoc h ⟨rfl,g⟩
theorem TabAt.len {α:Type}{G:V→α→Prop}{kvs:List (List Key×V)}{ks:List (a3×α)} (h:TabAt G kvs ks):kvs.length=ks.length:=Paired.length h
structure SS where
 known:Known
 bx:List (a3×Way)
 dh:List Nat
 wait:List (a3×Addr×List Nat)
 ready:List (Addr×List Nat)
structure Ad where
 l:Addr
 kd:Addr
 wl:Addr
 ll:Addr
 wd:Addr
 rl:Addr
def wwD (x:a3×Way):D:=.t [e9 x.1,kQ x.2]
def sf (d:Ad):List (Str×V):=[("told",.ref d.l),("known",.ref d.kd),("ways",.ref d.wl),("lacking",.ref d.ll),("waiting",.ref d.wd),("ready",.ref d.rl)]
def cS (d:Ad) (q:SS):List Addr:=[d.wl,d.ll,d.rl]++(q.ready.map (·.1)++q.wait.map (·.2.1))
def eN (d:Ad) (q:SS):List Addr:=[d.kd,d.wd]++cS d q
structure SAt (t:Adr) (S:Addr→Prop) (H:Hp) (sr:Addr) (d:Ad) (b:ax) (q:SS):Prop where
 obj:∃ dx,H sr=some (.ins t.bM dx (sf d))
 book:Dv S H (.ref d.l) (Pd b)
 known:∃ kvs,H d.kd=some (.dT kvs)∧TabAt (fun v x=>Dv S H v (knD x)) kvs q.known
 bx:∃ ws,H d.wl=some (.lst ws)∧bh S H ws (q.bx.map wwD)
 dh:H d.ll=some (.lst (nV q.dh))
 wait:∃ kvs,H d.wd=some (.dT kvs)∧TabAt (fun v x=>v=.ref x.1) kvs q.wait
 xo:∀ x∈q.wait,H x.2.1=some (.lst (nV x.2.2))
 ready:H d.rl=some (.lst (q.ready.map fun x=>V.ref x.1))
 pE:∀ x∈q.ready,H x.1=some (.lst (nV x.2))
 Bh:q.ready.length=201
 nd:(cS d q).Nodup
 ns:∀ a∈cS d q,¬ S a
 kw:d.kd≠d.wd
 wk:(q.wait.map (·.1)).Nodup
theorem SAt.same {S:Addr→Prop}{H H':Hp}{sr:Addr}{d:Ad}{b:ax}{q:SS} (A:SAt t S H sr d b q) (s:bg H H'):SAt t S H' sr d b q where
 obj:=let ⟨dx,h⟩:=A.obj;⟨dx,s _ _ h⟩
 book:=A.book.keep (Kp.of_same s)
 known:=let ⟨kvs,h,k⟩:=A.known;⟨kvs,s _ _ h,k.imp fun v x z=>z.keep (Kp.of_same s)⟩
 bx:=let ⟨ws,h,k⟩:=A.bx;⟨ws,s _ _ h,k.keep (Kp.of_same s)⟩
 dh:=s _ _ A.dh
 wait:=let ⟨kvs,h,k⟩:=A.wait;⟨kvs,s _ _ h,k⟩
 xo:=fun x hx=>s _ _ (A.xo x hx)
 ready:=s _ _ A.ready
 pE:=fun x hx=>s _ _ (A.pE x hx)
 Bh:=A.Bh
 nd:=A.nd
 ns:=A.ns
 kw:=A.kw
 wk:=A.wk
theorem SAt.wide {S S':Addr→Prop}{H:Hp}{sr:Addr}{d:Ad}{b:ax}{q:SS} (A:SAt t S H sr d b q) (s:∀ a,S a→S' a) (n:∀ a∈cS d q,¬ S' a):SAt t S' H sr d b q:=
 { A with
   book:=A.book.sub s
   known:=let ⟨kvs,h,k⟩:=A.known;⟨kvs,h,k.imp fun v x z=>z.sub s⟩
   bx:=let ⟨ws,h,k⟩:=A.bx;⟨ws,h,k.sub s⟩
   ns:=n }
theorem SAt.there {S:Addr→Prop}{H:Hp}{sr:Addr}{d:Ad}{b:ax}{q:SS} (A:SAt t S H sr d b q):∀ a∈cS d q,∃ xs,H a=some (.lst xs):=by
 intro a ha
 unfold cS at ha
 rcases az.mp ha with ha | ha
 ·simp only[aC,bN,or_false] at ha
  rcases ha with rfl | rfl | rfl
  ·obtain⟨ws,h,_⟩:=A.bx;exact⟨ws,h⟩
  ·exact⟨_,A.dh⟩
  ·exact⟨_,A.ready⟩
 ·rcases az.mp ha with ha | ha
  ·obtain⟨x,hx,rfl⟩:=ay.mp ha
   exact⟨_,A.pE x hx⟩
  ·obtain⟨x,hx,rfl⟩:=ay.mp ha
   exact⟨_,A.xo x hx⟩
theorem SAt.nw {S:Addr→Prop}{H H':Hp}{sr:Addr}{d:Ad}{b:ax}{q:SS} (A:SAt t S H sr d b q) (s:bg H H'):SAt t (nw S H) H' sr d b q:=
 (A.same s).wide H0 fun a ha=>by
   obtain⟨xs,h⟩:=A.there a ha
   exact XD h (A.ns a ha)
end
end U
namespace U
open PySem PySem.Spec PyProof.Rows L2
open PySem.W (Codec)
open Ways
section
variable {t:Adr}{S:Addr→Prop}{H H':Hp}{sr:Addr}{d:Ad}{b:ax}{q:SS}
theorem CO {α β:Type}{f:α→β}:∀ {l:List α},(l.map f).Nodup→∀ {x y:α},x∈l→y∈l→f x=f y→x=y
 | [],_,x,y,hx,_,_=>by cases hx
 | z::l,nd,x,y,hx,hy,e=>by
   rw[aU,c7] at nd
   rcases aC.mp hx with e1 | h1<;>rcases aC.mp hy with e2 | h2
   ·rw[e1,e2]
   ·exact absurd (ay.mpr ⟨y,h2,by rw[← e,e1]⟩) nd.1
   ·exact absurd (ay.mpr ⟨x,h1,by rw[e,e2]⟩) nd.1
   ·exact CO nd.2 h1 h2 e
theorem Qm {α:Type}{l:List α}{n:Nat}{y x:α} (h:x∈l.set n y):x=y∨∃ i,i≠n∧l[i]?=some x:=by
 obtain⟨i,hi⟩:=Av.mp h
 by_cases e:i=n
 ·subst e
  by_cases hl:i < l.length
  ·rw[b5 hl] at hi
   exact .inl (aa hi).symm
  ·rw[qN (by rw[kR];omega)] at hi
   cases hi
 ·rw[dj (br e)] at hi
  exact .inr ⟨i,e,hi⟩
theorem map_set {α β:Type} (f:α→β):∀ (l:List α) (n:Nat) (y x:α),l[n]?=some x→f x=f y→(l.set n y).map f=l.map f
 | [],n,y,x,h,_=>by simp at h
 | a::l,0,y,x,h,e=>by
   obtain rfl:=aa h
   show f y::_=f a::_
   rw[e]
 | a::l,n+1,y,x,h,e=>by
   show f a::(l.set n y).map f=f a::_
   rw[map_set f l n y x h e]
theorem SAt.apart (A:SAt t S H sr d b q):(d.wl≠d.ll∧d.wl≠d.rl∧d.ll≠d.rl)∧(∀ x∈q.ready,x.1≠d.wl∧x.1≠d.ll∧x.1≠d.rl)∧(∀ x∈q.wait,x.2.1≠d.wl∧x.2.1≠d.ll∧x.2.1≠d.rl)∧(∀ x∈q.ready,∀ y∈q.wait,x.1≠y.2.1)∧(q.ready.map (·.1)).Nodup∧(q.wait.map (·.2.1)).Nodup:=by
 have nd:=A.nd
 unfold cS at nd
 obtain⟨h1,h2,h3⟩:=ly.mp nd
 obtain⟨h4,h5,h6⟩:=ly.mp h2
 refine⟨⟨?_,?_,?_⟩,fun x hx=>?_,fun x hx=>?_,fun x hx y hy=>h6 _ (ay.mpr ⟨x,hx,rfl⟩) _ (ay.mpr ⟨y,hy,rfl⟩),h4,h5⟩
 ·intro z;simp[z] at h1
 ·intro z;simp[z] at h1
 ·intro z;simp[z] at h1
 ·have hm:x.1∈q.ready.map (·.1)++q.wait.map (·.2.1):=aQ _ (ay.mpr ⟨x,hx,rfl⟩)
  exact⟨fun z=>h3 d.wl (by simp) _ hm z.symm,fun z=>h3 d.ll (by simp) _ hm z.symm,fun z=>h3 d.rl (by simp) _ hm z.symm⟩
 ·have hm:x.2.1∈q.ready.map (·.1)++q.wait.map (·.2.1):=aO _ (ay.mpr ⟨x,hx,rfl⟩)
  exact⟨fun z=>h3 d.wl (by simp) _ hm z.symm,fun z=>h3 d.ll (by simp) _ hm z.symm,fun z=>h3 d.rl (by simp) _ hm z.symm⟩
theorem SAt.kp (A:SAt t S H sr d b q) {a:Addr} (ha:a∈cS d q) {o:HO}:Kp S H (upd H a o):=by
 obtain⟨xs,h⟩:=A.there a ha
 exact Kp.put h (fun _ z=>by cases z) (A.ns a ha)
theorem ML:d.wl∈cS d q:=by simp[cS]
theorem Il:d.ll∈cS d q:=by simp[cS]
theorem EG {x:Addr×List Nat} (h:x∈q.ready):x.1∈cS d q:=aO _ (aQ _ (ay.mpr ⟨x,h,rfl⟩))
theorem C2 {x:a3×Addr×List Nat} (h:x∈q.wait):x.2.1∈cS d q:=aO _ (aO _ (ay.mpr ⟨x,h,rfl⟩))
theorem SAt.neq (A:SAt t S H sr d b q) {a:Addr} (ha:a∈cS d q):sr≠a∧d.kd≠a∧d.wd≠a:=by
 obtain⟨xs,h⟩:=A.there a ha
 obtain⟨dx,h1⟩:=A.obj
 obtain⟨_,h2,_⟩:=A.known
 obtain⟨_,h3,_⟩:=A.wait
 exact⟨cu h1 h (by intro z;cases z),cu h2 h (by intro z;cases z),cu h3 h (by intro z;cases z)⟩
theorem SAt.Sb (A:SAt t S H sr d b q) {n i:Nat}{a:Addr}{r:List Nat} (h:q.ready[n]?=some (a,r)):SAt t S (upd H a (.lst (nV (r++[i])))) sr d b { q with ready:=q.ready.set n (a,r++[i]) }:=by
 have hm:=a7 h
 have ha:a∈cS d q:=EG (x:=(a,r)) hm
 have kp:=A.kp ha (o:=.lst (nV (r++[i])))
 obtain⟨n1,n2,n3⟩:=A.neq ha
 obtain⟨_,h2,h3,h4,h5,h6⟩:=A.apart
 obtain⟨m1,m2,m3⟩:=h2 _ hm
 have me:(q.ready.set n (a,r++[i])).map (·.1)=q.ready.map (·.1):=map_set _ _ _ _ _ h rfl
 refine⟨?_,A.book.keep kp,?_,?_,?_,?_,fun x hx=>?_,?_,fun x hx=>?_,?_,?_,?_,A.kw,A.wk⟩
 ·obtain⟨dx,h⟩:=A.obj;exact⟨dx,by rw[aN n1];exact h⟩
 ·obtain⟨kvs,h,k⟩:=A.known;exact⟨kvs,by rw[aN n2];exact h,k.imp fun v x z=>z.keep kp⟩
 ·obtain⟨ws,h,k⟩:=A.bx;exact⟨ws,by rw[aN (br m1)];exact h,k.keep kp⟩
 ·rw[aN (br m2)];exact A.dh
 ·obtain⟨kvs,h,k⟩:=A.wait;exact⟨kvs,by rw[aN n3];exact h,k⟩
 ·rw[aN (br (h4 _ hm x hx))];exact A.xo x hx
 ·rw[aN (br m3)]
  have e:(q.ready.set n (a,r++[i])).map (fun x=>V.ref x.1)=q.ready.map fun x=>V.ref x.1:=map_set _ _ _ _ _ h rfl
  show H d.rl=some (.lst ((q.ready.set n (a,r++[i])).map fun x=>V.ref x.1))
  rw[e]
  exact A.ready
 ·rcases Qm hx with rfl | ⟨j,hj,hx⟩
  ·exact aE
  ·have hx':=a7 hx
   rw[aN fun z=>?_]
   ·exact A.pE x hx'
   ·refine hj (Zh h5 (i:=j) (j:=n) (x:=a) ?_ ?_)
    ·rw[bq,hx,← z];rfl
    ·rw[bq,h];rfl
 ·show(q.ready.set n (a,r++[i])).length=201
  rw[kR]
  exact A.Bh
 ·show(cS d { q with ready:=q.ready.set n (a,r++[i]) }).Nodup
  unfold cS
  dsimp only
  rw[me]
  exact A.nd
 ·show ∀ x∈cS d { q with ready:=q.ready.set n (a,r++[i]) },¬ S x
  unfold cS
  dsimp only
  rw[me]
  exact A.ns
theorem SAt.Q7 (A:SAt t S H sr d b q) (l:List Nat):SAt t S (upd H d.ll (.lst (nV l))) sr d b { q with dh:=l }:=by
 have ha:d.ll∈cS d q:=Il
 have kp:=A.kp ha (o:=.lst (nV l))
 obtain⟨n1,n2,n3⟩:=A.neq ha
 obtain⟨⟨k1,k2,k3⟩,h2,h3,h4,h5,h6⟩:=A.apart
 refine⟨?_,A.book.keep kp,?_,?_,aE,?_,fun x hx=>?_,?_,fun x hx=>?_,A.Bh,A.nd,A.ns,A.kw,A.wk⟩
 ·obtain⟨dx,h⟩:=A.obj;exact⟨dx,by rw[aN n1];exact h⟩
 ·obtain⟨kvs,h,k⟩:=A.known;exact⟨kvs,by rw[aN n2];exact h,k.imp fun v x z=>z.keep kp⟩
 ·obtain⟨ws,h,k⟩:=A.bx;exact⟨ws,by rw[aN k1];exact h,k.keep kp⟩
 ·obtain⟨kvs,h,k⟩:=A.wait;exact⟨kvs,by rw[aN n3];exact h,k⟩
 ·rw[aN (h3 x hx).2.1];exact A.xo x hx
 ·rw[aN (br k3)];exact A.ready
 ·rw[aN (h2 x hx).2.1];exact A.pE x hx
theorem SAt.VL (A:SAt t S H sr d b q) {ws:List V} (hw:H d.wl=some (.lst ws)) {v:V}{x:a3×Way} (hv:Dv S H v (wwD x)):SAt t S (upd H d.wl (.lst (ws++[v]))) sr d b { q with bx:=q.bx++[x] }:=by
 have ha:d.wl∈cS d q:=ML
 have kp:=A.kp ha (o:=.lst (ws++[v]))
 obtain⟨n1,n2,n3⟩:=A.neq ha
 obtain⟨⟨k1,k2,k3⟩,h2,h3,h4,h5,h6⟩:=A.apart
 refine⟨?_,A.book.keep kp,?_,⟨_,aE,?_⟩,?_,?_,fun x hx=>?_,?_,fun x hx=>?_,A.Bh,A.nd,A.ns,A.kw,A.wk⟩
 ·obtain⟨dx,h⟩:=A.obj;exact⟨dx,by rw[aN n1];exact h⟩
 ·obtain⟨kvs,h,k⟩:=A.known;exact⟨kvs,by rw[aN n2];exact h,k.imp fun v x z=>z.keep kp⟩
 ·obtain⟨ws',h,k⟩:=A.bx
  rw[hw] at h
  cases h
  rw[aJ]
  exact(k.keep kp).append (.cons (hv.keep kp) .nil)
 ·rw[aN (br k1)];exact A.dh
 ·obtain⟨kvs,h,k⟩:=A.wait;exact⟨kvs,by rw[aN n3];exact h,k⟩
 ·rw[aN (h3 x hx).1];exact A.xo x hx
 ·rw[aN (br k2)];exact A.ready
 ·rw[aN (h2 x hx).1];exact A.pE x hx
mutual
theorem yV {S:Addr→Prop}{H H':Hp} (kt:∀ a xs,H a=some (.tup xs)→H' a=some (.tup xs)) (kl:∀ a xs,S a→H a=some (.lst xs)→H' a=some (.lst xs)):∀ (d:D) (v:V),Dv S H v d→Dv S H' v d
 | .i _,_,.int n=>.int n
 | .non,_,.non=>.non
 | .t ds,_,.tup h a=>.tup (kt _ _ h) (iD kt kl ds _ a)
 | .l ds,_,.lst i h a=>.lst i (kl _ _ i h) (iD kt kl ds _ a)
theorem iD {S:Addr→Prop}{H H':Hp} (kt:∀ a xs,H a=some (.tup xs)→H' a=some (.tup xs)) (kl:∀ a xs,S a→H a=some (.lst xs)→H' a=some (.lst xs)):∀ (ds:List D) (vs:List V),bh S H vs ds→bh S H' vs ds
 | [],_,.nil=>.nil
 | d::ds,_,.cons h a=>.cons (yV kt kl d _ h) (iD kt kl ds _ a)
end
theorem noD {a:Addr}{kvs:List (List Key×V)} (h:H a=some (.dT kvs)) {o:HO}{x:Addr}{u:HO} (e:H x=some u) (n:∀ kvs,u≠.dT kvs):upd H a o x=some u:=by
 rw[aN (cu e h (n kvs))]
 exact e
theorem BI {kvs:List (List Key×V)}{a:Addr} (h:H a=some (.dT kvs)) {o:HO}{v:V}{e:D} (hv:Dv S H v e):Dv S (upd H a o) v e:=
 yV (fun x xs hx=>noD h hx (by intro _ z;cases z)) (fun x xs _ hx=>noD h hx (by intro _ z;cases z)) e v hv
theorem zi {kvs:List (List Key×V)}{a:Addr} (h:H a=some (.dT kvs)) {o:HO}{v:List V}{e:List D} (hv:bh S H v e):bh S (upd H a o) v e:=
 iD (fun x xs hx=>noD h hx (by intro _ z;cases z)) (fun x xs _ hx=>noD h hx (by intro _ z;cases z)) e v hv
theorem SAt.Tx (A:SAt t S H sr d b q) {kvs:List (List Key×V)} (hk:H d.kd=some (.dT kvs)) {w:a3}{v:V}{x:bR} (hn:look q.known w=none) (hv:Dv S H v (knD x)):SAt t S (upd H d.kd (.dT (putK kvs (jK w) v))) sr d b { q with known:=q.known++[(w,x)] }:=by
 refine⟨?_,BI hk A.book,⟨_,aE,?_⟩,?_,noD hk A.dh (by intro _ z;cases z),?_,fun x hx=>noD hk (A.xo x hx) (by intro _ z;cases z),noD hk A.ready (by intro _ z;cases z),fun x hx=>noD hk (A.pE x hx) (by intro _ z;cases z),A.Bh,A.nd,A.ns,A.kw,A.wk⟩
 ·obtain⟨dx,h⟩:=A.obj;exact⟨dx,noD hk h (by intro _ z;cases z)⟩
 ·obtain⟨Ud,h,k⟩:=A.known
  rw[hk] at h
  cases h
  exact(k.imp fun v x z=>BI hk z).snoc hn (BI hk hv)
 ·obtain⟨ws,h,k⟩:=A.bx;exact⟨ws,noD hk h (by intro _ z;cases z),zi hk k⟩
 ·obtain⟨Ud,h,k⟩:=A.wait;exact⟨Ud,by rw[aN (br A.kw)];exact h,k⟩
theorem SAt.Q6 (A:SAt t S H sr d b q) {kvs:List (List Key×V)} (hk:H d.wd=some (.dT kvs)) {w:a3}{a:Addr} (hn:look q.wait w=none) (ha:H a=some (.lst [])) (hf:a∉cS d q) (hs:¬ S a):SAt t S (upd H d.wd (.dT (putK kvs (jK w) (.ref a)))) sr d b { q with wait:=q.wait++[(w,a,[])] }:=by
 have em:cS d { q with wait:=q.wait++[(w,a,[])] }=cS d q++[a]:=by
  unfold cS
  dsimp only
  rw[aJ,bK,bK]
  rfl
 refine⟨?_,BI hk A.book,?_,?_,noD hk A.dh (by intro _ z;cases z),⟨_,aE,?_⟩,fun x hx=>?_,noD hk A.ready (by intro _ z;cases z),fun x hx=>noD hk (A.pE x hx) (by intro _ z;cases z),A.Bh,?_,?_,A.kw,?_⟩
 ·obtain⟨dx,h⟩:=A.obj;exact⟨dx,noD hk h (by intro _ z;cases z)⟩
 ·obtain⟨Ud,h,k⟩:=A.known;exact⟨Ud,by rw[aN A.kw];exact h,k.imp fun v x z=>BI hk z⟩
 ·obtain⟨ws,h,k⟩:=A.bx;exact⟨ws,noD hk h (by intro _ z;cases z),zi hk k⟩
 ·obtain⟨Ud,h,k⟩:=A.wait
  rw[hk] at h
  cases h
  exact k.snoc hn rfl
 ·rcases az.mp hx with hx | hx
  ·exact noD hk (A.xo x hx) (by intro _ z;cases z)
  ·obtain rfl:=ag.mp hx
   exact noD hk ha (by intro _ z;cases z)
 ·rw[em]
  exact ua A.nd hf
 ·rw[em]
  intro x hx
  rcases az.mp hx with hx | hx
  ·exact A.ns x hx
  ·rw[ag.mp hx]
   exact hs
 ·show((q.wait++[(w,a,[])]).map (fun x:a3×Addr×List Nat=>x.1)).Nodup
  rw[aJ]
  exact ua A.wk (vo hn)
def dY (w:a3) (i:Nat) (x:a3×Addr×List Nat):a3×Addr×List Nat:=if x.1=w then (x.1,x.2.1,x.2.2++[i]) else x
theorem qE (w:a3) (i:Nat) (x:a3×Addr×List Nat):(dY w i x).1=x.1:=by
 unfold dY
 split<;>rfl
theorem uf (w:a3) (i:Nat) (x:a3×Addr×List Nat):(dY w i x).2.1=x.2.1:=by
 unfold dY
 split<;>rfl
theorem Paired.mapR {α β γ:Type}{F:α→β→Prop}{G:α→γ→Prop}{f:β→γ} (k:∀ a b,F a b→G a (f b)):∀ {l:List α}{m:List β},Paired F l m→Paired G l (m.map f)
 | _,_,.nil=>.nil
 | _,_,.cons r t=>.cons (k _ _ r) (Paired.mapR k t)
theorem SAt.Ob (A:SAt t S H sr d b q) {w:a3}{i:Nat}{a:Addr}{r:List Nat} (h:look q.wait w=some (a,r)):SAt t S (upd H a (.lst (nV (r++[i])))) sr d b { q with wait:=q.wait.map (dY w i) }:=by
 have hm:=oa h
 have ha:a∈cS d q:=C2 (x:=(w,a,r)) hm
 have kp:=A.kp ha (o:=.lst (nV (r++[i])))
 obtain⟨n1,n2,n3⟩:=A.neq ha
 obtain⟨_,h2,h3,h4,h5,h6⟩:=A.apart
 obtain⟨m1,m2,m3⟩:=h3 _ hm
 have me:(q.wait.map (dY w i)).map (·.2.1)=q.wait.map (·.2.1):=by
  rw[bt]
  exact bF fun x _=>uf w i x
 refine⟨?_,A.book.keep kp,?_,?_,?_,?_,fun x hx=>?_,?_,fun x hx=>?_,A.Bh,?_,?_,A.kw,?_⟩
 ·obtain⟨dx,h⟩:=A.obj;exact⟨dx,by rw[aN n1];exact h⟩
 ·obtain⟨kvs,h,k⟩:=A.known;exact⟨kvs,by rw[aN n2];exact h,k.imp fun v x z=>z.keep kp⟩
 ·obtain⟨ws,h,k⟩:=A.bx;exact⟨ws,by rw[aN (br m1)];exact h,k.keep kp⟩
 ·rw[aN (br m2)];exact A.dh
 ·obtain⟨kvs,h,k⟩:=A.wait
  exact⟨kvs,by rw[aN n3];exact h,Paired.mapR (fun kv x z=>⟨z.1.trans (by rw[qE]),z.2.trans (by rw[uf])⟩) k⟩
 ·obtain⟨y,hy,rfl⟩:=ay.mp hx
  by_cases e:y.1=w
  ·have:y=(w,a,r):=CO A.wk hy hm e
   subst this
   unfold dY
   rw[if_pos rfl]
   exact aE
  ·unfold dY
   rw[if_neg e,aN fun z=>e ?_]
   ·exact A.xo y hy
   ·exact congrArg (·.1) (CO h6 hy hm z)
 ·rw[aN (br m3)];exact A.ready
 ·rw[aN (h4 x hx _ hm)];exact A.pE x hx
 ·show(cS d { q with wait:=q.wait.map (dY w i) }).Nodup
  unfold cS
  dsimp only
  rw[me]
  exact A.nd
 ·show ∀ x∈cS d { q with wait:=q.wait.map (dY w i) },¬ S x
  unfold cS
  dsimp only
  rw[me]
  exact A.ns
 ·show((q.wait.map (dY w i)).map (·.1)).Nodup
  rw[bt,show(q.wait.map ((·.1)∘dY w i))=q.wait.map (·.1) from bF fun x _=>qE w i x]
  exact A.wk
end
end U
namespace U
open PySem PySem.Spec PyProof.Rows L2
open PySem.W (Codec)
open Ways KpFix
section
variable {P:Program}{w:World}{K:ai}{mg:Str→Option Value}{base:Heap}{t:Adr}
def Kf (ks:Known):a3→bR:=fun w=>(look ks w).getD none
theorem W0 {ks:Known}{w:a3}{x:bR} (h:look ks w=some x):Kf ks w=x:=by unfold Kf;rw[h];rfl
theorem Wx {S:Addr→Prop}{H:Hp}{v:V}{x:a3×Way} (h:Dv S H v (wwD x)):∃ p vw vy,v=.ref p∧H p=some (.tup [vw,vy])∧Dv S H vw (e9 x.1)∧Dv S H vy (kQ x.2):=by
 obtain⟨p,xs,rfl,hp,hx⟩:=h.tupI
 obtain⟨a,xs,rfl,h1,hx⟩:=hx.fB
 obtain⟨c,xs,rfl,h2,hx⟩:=hx.fB
 obtain rfl:=hx.xK
 exact⟨p,a,c,rfl,hp,h1,h2⟩
theorem PJ {S:Addr→Prop}{H:Hp}{v:V}{y:Way} (h:Dv S H v (kQ y)):∃ p h s ss,v=.ref p∧H p=some (.tup [.int y.own,.ref h,.ref s])∧S h∧H h=some (.lst (nV y.head))∧H s=some (.lst ss)∧bh S H ss (y.steps.map He):=by
 obtain⟨p,xs,rfl,hp,hx⟩:=h.tupI
 obtain⟨a,xs,rfl,h1,hx⟩:=hx.fB
 obtain⟨c,xs,rfl,h2,hx⟩:=hx.fB
 obtain⟨e,xs,rfl,h3,hx⟩:=hx.fB
 obtain rfl:=hx.xK
 obtain rfl:=h1.z5
 obtain⟨c,rfl,hs,hc⟩:=Dv.lint h2
 obtain⟨e,ss,rfl,_,he,hss⟩:=h3.wM
 exact⟨p,c,e,ss,rfl,hp,hs,hc,he,hss⟩
theorem step_at {S:Addr→Prop}{H:Hp}{v:V}{s:List Nat×a3} (h:Dv S H v (He s)):∃ p c vw,v=.ref p∧H p=some (.tup [.ref c,vw])∧S c∧H c=some (.lst (nV s.1))∧Dv S H vw (e9 s.2):=by
 obtain⟨p,xs,rfl,hp,hx⟩:=h.tupI
 obtain⟨a,xs,rfl,h1,hx⟩:=hx.fB
 obtain⟨c,xs,rfl,h2,hx⟩:=hx.fB
 obtain rfl:=hx.xK
 obtain⟨a,rfl,hs,ha⟩:=Dv.lint h1
 exact⟨p,a,c,rfl,hp,hs,ha,h2⟩
theorem WN {S:Addr→Prop}{H:Hp}{v:V}{z:Nat×bc} (h:Dv S H v (knD (some z))):∃ p c,v=.ref p∧H p=some (.tup [.int z.1,.ref c])∧S c∧H c=some (.lst (nV z.2)):=by
 obtain⟨p,xs,rfl,hp,hx⟩:=h.tupI
 obtain⟨a,xs,rfl,h1,hx⟩:=hx.fB
 obtain⟨c,xs,rfl,h2,hx⟩:=hx.fB
 obtain rfl:=hx.xK
 obtain rfl:=h1.z5
 obtain⟨c,rfl,hs,hc⟩:=Dv.lint h2
 exact⟨p,c,rfl,hp,hs,hc⟩
def Cw (k:a3→bR) (y:Way) (j:Nat):bR:=((y.steps.take j).map fun s=>(s.1,k s.2)).foldl put (some (y.own,y.head))
theorem En (k:a3→bR) (y:Way) {j:Nat}{s:List Nat×a3} (h:y.steps[j]?=some s):Cw k y (j+1)=put (Cw k y j) (s.1,k s.2):=by
 unfold Cw
 rw[cV h,aJ,gh]
 rfl
theorem N1 (k:a3→bR) (y:Way):Cw k y y.steps.length=raw k y:=by
 unfold Cw raw
 rw[cz]
theorem K6 {k:a3→bR}{y:Way}{j:Nat} (h:Cw k y j=none):raw k y=none:=by
 unfold Cw at h
 unfold raw
 conv=>lhs;rw[← qL j y.steps,aJ,gh]
 rw[h,ie]
def rdy (q:SS) (i:Nat) (y:Way):SS:=match raw (Kf q.known) y with
 | some z=>if z.1≤200 then (match q.ready[z.1]? with
   | some x=>{ q with ready:=q.ready.set z.1 (x.1,x.2++[i]) }
   | none=>q) else q
 | none=>q
def yq (t:Adr):Sp:=fun vs H Q _=>Ex8 fun(S:Addr→Prop) (sr:Addr) (d:Ad) (b:ax) (q:SS) (i:Nat) (w:a3) (y:Way)=>vs=[.ref sr,.int i]∧SAt t S H sr d b q∧q.bx[i]?=some (w,y)∧(∀ s∈y.steps,∃ x,look q.known s.2=some x)∧(∀ x∈q.ready,x.2.length≤100000)∧
 ∀ H',SAt t S H' sr d b (rdy q i y)→Ext (cS d q) H H'→Q .non H'
theorem qu (T:Txt K mg t):cI P w K mg base CX0 1 t.eg t.fQ ["self","place"] (yq t):=by
 refine T.f6.ok dM (fun vs H Q E h=>by obtain⟨_,_,_,_,_,_,_,_,e,_⟩:=h;subst e;rfl) (fun cdv A outer s H vs Q E hr h=>?_)
 obtain⟨S,sr,d,b,q,i,w,y,rfl,A,hi,hs,hz,k⟩:=h
 have hu:=AF hr
 refine⟨_,(ak (bW (i:=2) dM.nd rfl (ba rfl) (a9 aY (a9 fj (bI (pv 0) rfl) (pv 1) (fun _ _=>rfl)) aH (fun _ _=>rfl)))
  (ak (bW (i:=3) dM.nd rfl (ba rfl) (a9 aY (pv 2) aH (fun _ _=>rfl)))
  (ak (iW PassesOwn.never rfl (eY (a9 aY (pv 2) aH (fun _ _=>rfl))) (cg (i:=4) dM.nd rfl (ba rfl)) (ak (bW (i:=5) dM.nd rfl (ba rfl) (wH hu (bI (pv 0) rfl) (a9 aY (pv 4) aH (fun _ _=>rfl)) (fun _ _=>rfl)))
  (ak (b9 (bo HQ (pv 5) yF (bL _)) (aA Mt) bp)
  (aA (bW (i:=3) dM.nd rfl (ba rfl) (i4 pF (pv 3) (a9 aY (pv 5) aH (fun _ _=>rfl))))))))
  (aA (b9 (bo TN (pv 3) (bz rfl T.sg T.sd) (bL _)) (aA (cw (l5 aW bB bA d5 (a9 fj (bI (pv 0) rfl) (pv 3) (fun _ _=>rfl)) (ah (pv 1) aq)))) bp))))),?_⟩
 obtain⟨dx,ho⟩:=A.obj
 obtain⟨ws,hw,hws⟩:=A.bx
 obtain⟨v,hv,hvd⟩:=hws.get' (i:=i) (d:=wwD (w,y)) (by rw[bq,hi];rfl)
 obtain⟨p,vw,vy,rfl,hp,h1,h2⟩:=Wx hvd
 obtain⟨py,ph,ps,ss,rfl,hpy,_,hph,hps,hss⟩:=PJ h2
 refine⟨_,rfl,sr,_,dx,_,_,rfl,ho,T.bU,T.kC,rfl,_,rfl,d.wl,ws,_,_,rfl,rfl,SqL.of hw,aF hv,p,_,_,_,rfl,rfl,SqT.of hp,aF (j:=1) rfl,?_⟩
 refine⟨_,rfl,py,_,_,_,rfl,rfl,SqT.of hpy,aF (j:=0) rfl,?_⟩
 refine⟨_,rfl,py,_,_,_,rfl,rfl,SqT.of hpy,aF (j:=2) rfl,ps,rfl,⟨_,SqL.of hps⟩,?_⟩
 have hsl:ss.length=y.steps.length:=by rw[hss.len,ae]
 obtain⟨kvs,hk,hkt⟩:=A.known
 refine mI (K:=K) (a:=ps) (xs:=ss) (fun j σ H'=>H'=H∧∃ z u x,Cw (Kf q.known) y j=some z∧σ=[some (.ref sr),some (.int i),some (.ref py),some (.int z.1),u,x]) ⟨rfl,(y.own,y.head),_,_,rfl,rfl⟩ (fun i σ H' _ h=>by rw[h.1];exact SqL.of hps) ?_ ?_
 ·rintro j v σ H' hj ⟨rfl,z,u,x,hzz,rfl⟩
  obtain⟨d1,hd1,hv1⟩:=hss.get hj
  obtain⟨s,hsj,rfl⟩:=cx hd1
  obtain⟨pp,pc,vw2,rfl,hpp,_,hpc,hvw⟩:=step_at hv1
  obtain⟨a,rfl,ha⟩:=qe hvw
  obtain⟨xk,hxk⟩:=hs s (a7 hsj)
  obtain⟨vv,hvv,hvd⟩:=hkt.get hxk
  refine⟨_,rfl,sr,_,dx,_,_,rfl,ho,T.bU,T.ff,rfl,?_⟩
  refine⟨_,rfl,pp,_,_,_,rfl,rfl,SqT.of hpp,aF (j:=1) rfl,d.kd,vv,rfl,by rw[← hvv];exact oO.t hk ha,?_⟩
  have MQ:=En (Kf q.known) y hsj
  rw[W0 hxk,hzz] at MQ
  cases xk with
  | none=>
    obtain rfl:=hvd.VT
    refine⟨_,rfl,rfl,_,rfl,uL ?_⟩
    have hn:raw (Kf q.known) y=none:=K6 (j:=j+1) MQ
    refine k H' ?_ (Ext.refl _ _)
    unfold rdy
    rw[hn]
    exact A
  | some x2=>
    obtain⟨pk,ck,rfl,hpk,_,hck⟩:=WN hvd
    refine⟨_,rfl,rfl,_,rfl,z0 ?_⟩
    refine⟨_,rfl,_,rfl,pk,_,_,_,rfl,rfl,SqT.of hpk,aF (j:=0) rfl,_,_,rfl,rfl,?_⟩
    exact⟨rfl,_,_,_,MQ,by show _=[_,_,_,some (V.int ((z.1+x2.1:Nat):Int)),_,_];rw[Int.natCast_add];rfl⟩
 ·rintro σ H' ⟨rfl,z,u,x,hzz,rfl⟩
  rw[hsl,N1] at hzz
  refine⟨_,rfl,_,_,rfl,rfl,_,rfl,qx (fun h=>?_) (fun h=>?_)⟩
  ·have h:(z.1:Int)≤200:=of_decide_eq_true h
   obtain⟨⟨a,r⟩,hr⟩:∃ x,q.ready[z.1]?=some x:=⟨_,aK (by rw[A.Bh];omega)⟩
   have hm:=a7 hr
   have ha:=A.pE _ hm
   have hrd:rdy q i y={ q with ready:=q.ready.set z.1 (a,r++[i]) }:=by
    unfold rdy
    rw[hzz]
    dsimp only
    rw[if_pos (by omega),hr]
   refine⟨_,rfl,sr,_,dx,_,_,rfl,ho,T.bU,T.tF,rfl,_,rfl,d.rl,_,_,.ref a,rfl,rfl,SqL.of A.ready,aF (by rw[bq,hr];rfl),.inl ⟨rfl,_,SqL.of ha⟩,_,rfl,a,_,_,rfl,rfl,ha,small _ ?_,?_⟩
   ·have:=hz _ hm
    unfold nV nI
    rw[ae,ae]
    dsimp only at this ⊢
    omega
   ·have e:nV r++[V.int i]=nV (r++[i]):=by
     unfold nV nI
     rw[aJ,aJ]
     rfl
    show Q .non (upd H' a (.lst (nV r++[V.int i])))
    rw[e]
    refine k _ ?_ (Ext.put (EG hm))
    rw[hrd]
    exact A.Sb hr
  ·have h:¬ (z.1:Int)≤200:=fun z=>h (decide_eq_true z)
   have hrd:rdy q i y=q:=by
    unfold rdy
    rw[hzz]
    dsimp only
    rw[if_neg (by omega)]
   refine k H' ?_ (Ext.refl _ _)
   rw[hrd]
   exact A
end
end U
namespace U
open PySem PySem.Spec PyProof.Rows L2
open PySem.W (Codec)
open Ways KpFix
section
variable {P:Program}{w:World}{K:ai}{mg:Str→Option Value}{base:Heap}{t:Adr}
theorem MK (a c:List Nat):nV a++nV c=nV (a++c):=by
 unfold nV nI
 rw[aJ,aJ]
theorem ra (a:List Nat):(nV a).length=a.length:=by
 unfold nV nI
 rw[ae,ae]
theorem OZ:∀ (l:List (bc×bR)) (a:Nat) (r:bc) (z:Nat×bc),l.foldl put (some (a,r))=some z→r.length≤z.2.length
 | [],a,r,z,e=>by
   obtain rfl:=aa e
   exact aB _
 | x::l,a,r,z,e=>by
   rw[bu] at e
   obtain⟨r',u⟩:=x
   cases u with
   | none=>
     have:put (some (a,r)) (r',none)=none:=rfl
     rw[this,ie] at e
     cases e
   | some u=>
     have h:=OZ l (a+u.1) (r++(r'++u.2)) z e
     rw[au] at h
     omega
theorem Tt {k:a3→bR}{y:Way}{j:Nat}{x z:Nat×bc} (h:Cw k y j=some x) (e:raw k y=some z):x.2.length≤z.2.length:=by
 unfold Cw at h
 unfold raw at e
 conv at e=>lhs;rw[← qL j y.steps,aJ,gh]
 rw[h] at e
 exact OZ _ _ _ _ e
theorem R5 {k:a3→bR}{y:Way}{z:Nat×bc} (e:raw k y=some z) (j:Nat):∃ x,Cw k y j=some x:=by
 cases h:Cw k y j with
 | none=>rw[K6 h] at e;cases e
 | some x=>exact⟨x,rfl⟩
theorem yD {k:a3→bR}{y:Way}{z:Nat×bc} (e:raw k y=some z) {s:List Nat×a3} (hs:s∈y.steps):∃ x,k s.2=some x:=by
 obtain⟨j,hj⟩:=Av.mp hs
 obtain⟨x,hx⟩:=R5 e (j+1)
 rw[En k y hj] at hx
 cases hk:k s.2 with
 | none=>
   rw[hk] at hx
   unfold put at hx
   split at hx
   ·rename_i h;cases h
   ·cases hx
 | some u=>exact⟨u,rfl⟩
theorem wZ {ks:Known}{w:a3}{x:Nat×bc} (h:Kf ks w=some x):look ks w=some (some x):=by
 unfold Kf at h
 cases e:look ks w with
 | none=>rw[e] at h;cases h
 | some y=>rw[e] at h;rw[show y=some x from h]
def Ed (t:Adr):Sp:=fun vs H Q _=>Ex8 fun(S:Addr→Prop) (sr:Addr) (d:Ad) (b:ax) (q:SS) (v:V) (y:Way) (z:Nat×bc)=>vs=[.ref sr,v]∧SAt t S H sr d b q∧Dv S H v (kQ y)∧raw (Kf q.known) y=some z∧z.2.length≤100000∧
 ∀ H' a,bg H H'→H' a=some (.lst (nV z.2))→H a=none→Q (.ref a) H'
theorem Ez (T:Txt K mg t):cI P w K mg base CX0 1 t.iq t.jX ["self","way"] (Ed t):=by
 refine T.j6.ok px (fun vs H Q E h=>by obtain⟨_,_,_,_,_,_,_,_,e,_⟩:=h;subst e;rfl) (fun cdv A outer s H vs Q E hr h=>?_)
 obtain⟨S,sr,d,b,q,v,y,z,rfl,A,hv,hz,hzl,k⟩:=h
 have hu:=AF hr
 refine⟨_,(ak (bW (i:=2) px.nd rfl (ba rfl) (vb M8 (by rfl) T.YB (by rfl) (ah (a9 aY (pv 1) aH (fun _ _=>rfl)) aq)))
  (ak (iW PassesOwn.never rfl (eY (a9 aY (pv 1) aH (fun _ _=>rfl))) (cg (i:=3) px.nd rfl (ba rfl)) (ak (cw (l5 aW i7 i6 vk (pv 2) (ah (a9 aY (pv 3) aH (fun _ _=>rfl)) aq)))
  (aA (cw (l5 aW i7 i6 vk (pv 2) (ah (a9 aY (wH hu (bI (pv 0) rfl) (a9 aY (pv 3) aH (fun _ _=>rfl)) (fun _ _=>rfl)) aH (fun _ _=>rfl)) aq))))))
  (aA (a6 (pv 2))))),?_⟩
 obtain⟨dx,ho⟩:=A.obj
 obtain⟨py,ph,ps,ss,rfl,hpy,_,hph,hps,hss⟩:=PJ hv
 have hsl:ss.length=y.steps.length:=by rw[hss.len,ae]
 obtain⟨kvs,hk,hkt⟩:=A.known
 refine⟨_,rfl,py,_,_,_,rfl,rfl,SqT.of hpy,aF (j:=1) rfl,ph,_,rfl,.inl (SqL.of hph),fun a ha=>?_⟩
 have s0:=bg.new (o:=.lst (nV y.head)) ha
 refine⟨_,rfl,py,_,_,_,rfl,rfl,SqT.of (s0 _ _ hpy),aF (j:=2) rfl,ps,rfl,⟨_,SqL.of (s0 _ _ hps)⟩,?_⟩
 refine mI (K:=K) (a:=ps) (xs:=ss) (fun j σ H'=>bg H H'∧∃ x u,Cw (Kf q.known) y j=some x∧H' a=some (.lst (nV x.2))∧σ=[some (.ref sr),some (.ref py),some (.ref a),u]) ⟨s0,(y.own,y.head),_,rfl,aE,rfl⟩ (fun i σ H' _ h=>SqL.of (h.1 _ _ hps)) ?_ ?_
 ·rintro j v σ H1 hj ⟨s1,x,u,hx,ha1,rfl⟩
  obtain⟨d1,hd1,hv1⟩:=hss.get hj
  obtain⟨s,hsj,rfl⟩:=cx hd1
  obtain⟨pp,pc,vw2,rfl,hpp,_,hpc,hvw⟩:=step_at hv1
  obtain⟨c,rfl,hc⟩:=qe hvw
  obtain⟨xk,hxk⟩:=yD hz (a7 hsj)
  obtain⟨vv,hvv,hvd⟩:=hkt.get (wZ hxk)
  obtain⟨pk,ck,rfl,hpk,_,hck⟩:=WN hvd
  have MQ:=En (Kf q.known) y hsj
  rw[hxk,hx] at MQ
  have MQ:Cw (Kf q.known) y (j+1)=some (x.1+xk.1,x.2++(s.1++xk.2)):=MQ
  have hln:=Tt MQ hz
  dsimp only at hln
  rw[au,au] at hln
  have na:∀ {e:Addr}{o:HO},H e=some o→e≠a:=fun h=>bf h ha
  refine⟨_,rfl,.inl ⟨rfl,_,SqL.of ha1⟩,_,rfl,pp,_,_,_,rfl,rfl,SqT.of (s1 _ _ hpp),aF (j:=0) rfl,a,pc,_,_,rfl,rfl,ha1,s1 _ _ hpc,?_,?_⟩
  ·rw[ra,ra]
   exact jd (small _ (by omega))
  have ha2:upd H1 a (.lst (nV x.2++nV s.1)) a=some (.lst (nV x.2++nV s.1)):=aE
  have s2:bg H (upd H1 a (.lst (nV x.2++nV s.1))):=fun e o he=>by rw[aN (na he)];exact s1 _ _ he
  refine⟨_,rfl,.inl ⟨rfl,_,SqL.of ha2⟩,?_⟩
  refine⟨_,rfl,sr,_,dx,_,_,rfl,s2 _ _ ho,T.bU,T.ff,rfl,?_⟩
  refine⟨_,rfl,pp,_,_,_,rfl,rfl,SqT.of (s2 _ _ hpp),aF (j:=1) rfl,d.kd,.ref pk,rfl,by rw[← hvv];exact oO.t (s2 _ _ hk) (s2 _ _ hc),?_⟩
  refine⟨pk,_,_,_,rfl,rfl,SqT.of (s2 _ _ hpk),aF (j:=1) rfl,a,ck,_,_,rfl,rfl,ha2,s2 _ _ hck,?_,?_⟩
  ·rw[au,ra,ra,ra]
   exact jd (small _ (by omega))
  refine⟨fun e o he=>by rw[aN (na he)];exact s2 _ _ he,_,_,MQ,?_,rfl⟩
  rw[aE,MK,MK,bK]
 ·rintro σ H1 ⟨s1,x,u,hx,ha1,rfl⟩
  rw[hsl,N1,hz] at hx
  obtain rfl:=aa hx
  exact⟨_,rfl,k _ a s1 ha1 ha⟩
structure EOk (q:SS) (p:Nat) (ps:List Nat) (E:List (a3×bc)):Prop where
 nd:(E.map (·.1)).Nodup
 of:∀ w r,look E w=some r→look q.known w=none∧∃ i∈ps,∃ y,q.bx[i]?=some (w,y)∧raw (Kf q.known) y=some (p,r)
 all:∀ i∈ps,∀ w y z,q.bx[i]?=some (w,y)→look q.known w=none→raw (Kf q.known) y=some z→∃ r,look E w=some r∧rle r z.2
def zA (S:Addr→Prop) (H:Hp) (v:V) (r:bc):Prop:=∃ a,v=.ref a∧S a∧H a=some (.lst (nV r))
theorem OH:∀ a c:List Nat,HT.lexLt (nI a) (nI c)=Kp190.earlier a c
 | [],[]=>rfl
 | [],_::_=>rfl
 | _::_,[]=>rfl
 | x::a,y::c=>by
   show(if (x:Int)=y then HT.lexLt (nI a) (nI c) else decide ((x:Int) < y))=if x < y then true else if y < x then false else Kp190.earlier a c
   rw[OH a c]
   by_cases h1:x < y
   ·rw[if_pos h1,if_neg (by omega),decide_eq_true (by omega)]
   ·rw[if_neg h1]
    by_cases h2:y < x
    ·rw[if_pos h2,if_neg (by omega),decide_eq_false (by omega)]
    ·rw[if_neg h2,if_pos (by omega)]
def Qc {α:Type} (E:List (a3×α)) (w:a3) (r:α):List (a3×α):=E.map fun x=>if x.1=w then (x.1,r) else x
theorem EH {α:Type}:∀ (E:List (a3×α)) (w:a3) (r:α) (u:a3),look (Qc E w r) u=if u=w then (look E w).map (fun _=>r) else look E u
 | [],w,r,u=>by
   show none=_
   split<;>rfl
 | x::E,w,r,u=>by
   have ih:=EH E w r u
   unfold Qc at ih ⊢
   rw[aU,dP,dP,dP,ih]
   by_cases h1:x.1=w
   ·rw[if_pos h1,if_pos h1]
    dsimp only
    by_cases h2:u=w
    ·rw[if_pos (h1.trans h2.symm),if_pos h2];rfl
    ·rw[if_neg (fun z=>h2 (z.symm.trans h1)),if_neg h2,if_neg h2,if_neg (fun z=>h2 (z.symm.trans h1))]
   ·rw[if_neg h1,if_neg h1]
    by_cases h2:u=w
    ·rw[if_pos h2,if_pos h2,if_neg (fun z=>h1 (z.trans h2))]
    ·rw[if_neg h2,if_neg h2]
theorem Sa {α:Type} (E:List (a3×α)) (w:a3) (r:α):(Qc E w r).map (·.1)=E.map (·.1):=by
 unfold Qc
 rw[bt]
 refine bF fun x _=>?_
 show(if x.1=w then (x.1,r) else x).1=x.1
 split<;>rfl
theorem TabAt.put {α:Type}{G:V→α→Prop}{kvs:List (List Key×V)}{ks:List (a3×α)} (h:TabAt G kvs ks) {w:a3}{v:V}{x:α} (e:look ks w≠none) (g:G v x):TabAt G (putK kvs (jK w) v) (Qc ks w x):=by
 have hs:(kvs.any fun kv=>decide (kv.1=jK w))=true:=by
  rw[yi,h.has w]
  cases q:look ks w with
  | none=>exact absurd q e
  | some _=>rfl
 unfold putK
 rw[if_pos hs]
 clear hs e
 induction h with
 | nil=>exact .nil
 | @cons kv y kvs ks hy _ ih=>
   refine .cons ?_ ih
   dsimp only
   by_cases e:y.1=w
   ·rw[if_pos (by rw[hy.1,e]),if_pos e]
    exact⟨hy.1,g⟩
   ·rw[if_neg (fun z=>e (IB (hy.1.symm.trans z))),if_neg e]
    exact hy
def uZ (t:Adr):Sp:=fun vs H Q _=>Ex8 fun(S:Addr→Prop) (sr:Addr) (d:Ad) (b:ax) (q:SS) (p:Nat) (a0:Addr) (ps:List Nat)=>vs=[.ref sr,.int p]∧SAt t S H sr d b q∧q.ready[p]?=some (a0,ps)∧
 (∀ i∈ps,∃ w y r,q.bx[i]?=some (w,y)∧raw (Kf q.known) y=some (p,r)∧r.length≤100000)∧ps.length≤100000∧
 ∀ H' e E kvs,bg H H'→H' e=some (.dT kvs)→H e=none→TabAt (zA (nw S H) H') kvs E→EOk q p ps E→E.length≤ps.length→Q (.ref e) H'
theorem zA.same {S:Addr→Prop}{H H':Hp}{v:V}{r:bc} (s:bg H H') (h:zA S H v r):zA S H' v r:=by
 obtain⟨a,e,hs,ha⟩:=h
 exact⟨a,e,hs,s _ _ ha⟩
theorem vg (T:Txt K mg t):cI P w K mg base CX0 2 t.di t.dX ["self","parts"] (uZ t):=by
 refine T.dZ.ok dN (fun vs H Q E h=>by obtain⟨_,_,_,_,_,_,_,_,e,_⟩:=h;subst e;rfl) (fun cdv A outer s H vs Q E hr h=>?_)
 obtain⟨S,sr,d,b,q,p,a0,ps,rfl,A,hrp,hps,hpl,k⟩:=h
 have hu:=AF hr
 have hu0:_ < cLine:=Nat.lt_of_succ_lt hu
 refine⟨_,(ak (bW (i:=2) dN.nd rfl (ba rfl) HI)
  (ak (iW PassesOwn.never rfl (eY (a9 fj (bI (pv 0) rfl) (pv 1) (fun _ _=>rfl))) (cg (i:=3) dN.nd rfl (ba rfl)) (ak (bW (i:=4) dN.nd rfl (ba rfl) (a9 aY (a9 fj (bI (pv 0) rfl) (pv 3) (fun _ _=>rfl)) aH (fun _ _=>rfl)))
  (ak (b9 (Ew (Xy hu (pv 4) (bI (pv 0) rfl))) (aA Oc) bp)
  (ak (bW (i:=5) dN.nd rfl (ba rfl) (cn (pv 0) T.bU T.Gw (Ez T) (hr.mono (by decide)) T.GF .nil bw (ah (a9 aY (a9 fj (bI (pv 0) rfl) (pv 3) (fun _ _=>rfl)) aH (fun _ _=>rfl)) aq)))
  (aA (b9 (PW.pt (N9 (Ew (vc hu (pv 4) (pv 2))) (Ms (bo (XA hu0) (pv 5) (wH hu (pv 2) (pv 4) (fun _ _=>rfl)) (bL _))))) (aA (CG hu (pv 2) (pv 4) (pv 5) rfl)) bp))))))
  (aA (a6 (pv 2))))),?_⟩
 obtain⟨dx,ho⟩:=A.obj
 obtain⟨ws,hw,hws⟩:=A.bx
 obtain⟨kvk,hk,hkt⟩:=A.known
 have hmr:=a7 hrp
 have hra:=A.pE _ hmr
 intro e he
 have s0:=bg.new (o:=.dT []) he
 refine⟨_,rfl,sr,_,dx,_,_,rfl,s0 _ _ ho,T.bU,T.tF,rfl,_,rfl,d.rl,_,_,.ref a0,rfl,rfl,SqL.of (s0 _ _ A.ready),aF (by rw[bq,hrp];rfl),a0,rfl,⟨_,SqL.of (s0 _ _ hra)⟩,?_⟩
 refine mI (K:=K) (a:=a0) (xs:=nV ps) (fun j σ H'=>bg H H'∧(∃ x u v,σ=[some (.ref sr),some (.int p),some (.ref e),x,u,v])∧∃ E kvs,H' e=some (.dT kvs)∧TabAt (zA (nw S H) H') kvs E∧EOk q p (ps.take j) E∧E.length≤j) ⟨s0,⟨_,_,_,rfl⟩,[],[],aE,.nil,⟨by simp,fun w r h=>(by cases h),fun i hi=>(by simp at hi)⟩,aT _⟩ (fun i σ H' _ h=>SqL.of (h.1 _ _ hra)) ?_ ?_
 ·rintro j v σ H1 hj ⟨s1,⟨x,u,vv,rfl⟩,E,kvs,he1,hE,hok,hEl⟩
  obtain⟨n,hn,rfl⟩:=ints_get (ns:=nI ps) hj
  obtain⟨i,hi,rfl⟩:=cx hn
  have hjl:j < ps.length:=(aP.mp hi).1
  obtain⟨wt,y,r,hwy,Sq,hrl⟩:=hps i (a7 hi)
  obtain⟨vi,hvi,hvd⟩:=hws.get' (i:=i) (d:=wwD (wt,y)) (by rw[bq,hwy];rfl)
  obtain⟨pp,vw,vy,rfl,hpp,h1,h2⟩:=Wx hvd
  obtain⟨c,rfl,hc⟩:=qe h1
  have snoc:ps.take (j+1)=ps.take j++[i]:=cV hi
  refine⟨_,rfl,sr,_,dx,_,_,rfl,s1 _ _ ho,T.bU,T.kC,rfl,_,rfl,d.wl,ws,_,_,rfl,rfl,SqL.of (s1 _ _ hw),aF hvi,pp,_,_,_,rfl,rfl,SqT.of (s1 _ _ hpp),aF (j:=0) rfl,?_⟩
  refine⟨_,rfl,_,rfl,sr,_,dx,_,_,rfl,s1 _ _ ho,T.bU,T.ff,rfl,d.kd,_,rfl,oO.t (s1 _ _ hk) (s1 _ _ hc),_,rfl,?_⟩
  rw[hkt.has wt]
  cases hkw:look q.known wt with
  | some xk=>
    refine uL ⟨s1,⟨_,_,_,rfl⟩,E,kvs,he1,hE,⟨hok.nd,fun w r h=>?_,fun i' hi' w' y' z' h1 h2 h3=>?_⟩,by omega⟩
    ·obtain⟨g1,i2,hi2,g2⟩:=hok.of w r h
     exact⟨g1,i2,by rw[snoc];exact aQ _ hi2,g2⟩
    ·rw[snoc] at hi'
     rcases az.mp hi' with q1 | q1
     ·exact hok.all i' q1 w' y' z' h1 h2 h3
     ·obtain rfl:=ag.mp q1
      rw[hwy] at h1
      obtain⟨rfl,rfl⟩:=aV (aa h1)
      rw[hkw] at h2
      cases h2
  | none=>
    refine z0 ?_
    refine⟨_,rfl,sr,dx,_,rfl,s1 _ _ ho,rfl,?_⟩
    refine⟨_,rfl,sr,_,dx,_,_,rfl,s1 _ _ ho,T.bU,T.kC,rfl,_,rfl,d.wl,ws,_,_,rfl,rfl,SqL.of (s1 _ _ hw),aF hvi,pp,_,_,_,rfl,rfl,SqT.of (s1 _ _ hpp),aF (j:=1) rfl,?_⟩
    refine⟨S,sr,d,b,q,vy,y,(p,r),rfl,A.same s1,h2.keep (Kp.of_same s1),Sq,hrl,fun H2 a s2 ha hna=>?_⟩
    have s12:=s1.trans s2
    have he2:=s2 _ _ he1
    have hE2:TabAt (zA (nw S H) H2) kvs E:=hE.imp fun v x z=>z.same s2
    have haH:H a=none:=s1.non a hna
    have hae:a≠e:=br (bf he1 hna)
    have Gg:∀ o,zA (nw S H) (upd H2 e o) (.ref a) r:=fun o=>⟨a,rfl,.inr haH,by rw[aN hae];exact ha⟩
    have s3:∀ o,bg H (upd H2 e o):=fun o x u hx=>by rw[aN (bf hx he)];exact s12 _ _ hx
    have hE3:∀ o,TabAt (zA (nw S H) (upd H2 e o)) kvs E:=fun o=>hE2.imp fun v x z=>by
     obtain⟨a',ev,hs',ha'⟩:=z
     exact⟨a',ev,hs',by rw[aN (cu ha' he2 (by intro z;cases z))];exact ha'⟩
    refine⟨_,rfl,_,rfl,e,_,rfl,oO.t he2 (s12 _ _ hc),_,rfl,?_⟩
    rw[hE2.has wt]
    cases hEw:look E wt with
    | none=>
      refine uL (uL ?_)
      refine⟨_,rfl,_,rfl,_,rfl,e,_,rfl,KD.t he2 (s12 _ _ hc) ?_,s3 _,⟨_,_,_,rfl⟩,E++[(wt,r)],_,aE,(hE3 _).snoc hEw (Gg _),⟨?_,fun w' r' h=>?_,fun i' hi' w' y' z' h1 h2 h3=>?_⟩,?_⟩
      ·rw[hE2.len]
       exact small _ (by omega)
      ·rw[aJ]
       exact ua hok.nd (vo hEw)
      ·rw[kh E wt r w' hEw] at h
       by_cases g:w'=wt
       ·rw[if_pos g] at h
        obtain rfl:=aa h
        subst g
        exact⟨hkw,i,by rw[snoc];exact aO _ (ag.mpr rfl),y,hwy,Sq⟩
       ·rw[if_neg g] at h
        obtain⟨g1,i2,hi2,g2⟩:=hok.of w' r' h
        exact⟨g1,i2,by rw[snoc];exact aQ _ hi2,g2⟩
      ·rw[kh E wt r w' hEw]
       rw[snoc] at hi'
       rcases az.mp hi' with q1 | q1
       ·obtain⟨r',g1,g2⟩:=hok.all i' q1 w' y' z' h1 h2 h3
        have:w'≠wt:=fun z=>by rw[z,hEw] at g1;cases g1
        exact⟨r',by rw[if_neg this];exact g1,g2⟩
       ·obtain rfl:=ag.mp q1
        rw[hwy] at h1
        obtain⟨rfl,rfl⟩:=aV (aa h1)
        rw[Sq] at h3
        obtain rfl:=aa h3
        exact⟨r,if_pos rfl,sN _⟩
      ·rw[au]
       exact B4 hEl 1
    | some r0=>
      refine z0 ?_
      obtain⟨v0,hv0,a0',rfl,hs0,ha0⟩:=hE2.get hEw
      refine⟨_,rfl,_,rfl,_,rfl,e,.ref a0',rfl,by rw[← hv0];exact oO.t he2 (s12 _ _ hc),a,a0',nI r,nI r0,rfl,rfl,SqL.of ha,SqL.of ha0,_,rfl,?_⟩
      rw[OH]
      cases her:Kp190.earlier r r0 with
      | true=>
        refine uL ?_
        refine⟨_,rfl,_,rfl,_,rfl,e,_,rfl,KD.t he2 (s12 _ _ hc) ?_,s3 _,⟨_,_,_,rfl⟩,Qc E wt r,_,aE,(hE3 _).put (by rw[hEw];exact fun z=>nomatch z) (Gg _),⟨?_,fun w' r' h=>?_,fun i' hi' w' y' z' h1 h2 h3=>?_⟩,?_⟩
        ·rw[hE2.len]
         exact small _ (by omega)
        ·rw[Sa]
         exact hok.nd
        ·rw[EH] at h
         by_cases g:w'=wt
         ·rw[if_pos g,hEw] at h
          obtain rfl:=aa h
          subst g
          exact⟨hkw,i,by rw[snoc];exact aO _ (ag.mpr rfl),y,hwy,Sq⟩
         ·rw[if_neg g] at h
          obtain⟨g1,i2,hi2,g2⟩:=hok.of w' r' h
          exact⟨g1,i2,by rw[snoc];exact aQ _ hi2,g2⟩
        ·rw[EH]
         rw[snoc] at hi'
         rcases az.mp hi' with q1 | q1
         ·obtain⟨r',g1,g2⟩:=hok.all i' q1 w' y' z' h1 h2 h3
          by_cases g:w'=wt
          ·subst g
           rw[hEw] at g1
           obtain rfl:=aa g1
           exact⟨r,by rw[if_pos rfl,hEw];rfl,u7 (pX her) g2⟩
          ·exact⟨r',by rw[if_neg g];exact g1,g2⟩
         ·obtain rfl:=ag.mp q1
          rw[hwy] at h1
          obtain⟨rfl,rfl⟩:=aV (aa h1)
          rw[Sq] at h3
          obtain rfl:=aa h3
          exact⟨r,by rw[if_pos rfl,hEw];rfl,sN _⟩
        ·unfold Qc
         rw[ae]
         omega
      | false=>
        refine z0 ⟨s12,⟨_,_,_,rfl⟩,E,kvs,he2,hE2,⟨hok.nd,fun w r h=>?_,fun i' hi' w' y' z' h1 h2 h3=>?_⟩,by omega⟩
        ·obtain⟨g1,i2,hi2,g2⟩:=hok.of w r h
         exact⟨g1,i2,by rw[snoc];exact aQ _ hi2,g2⟩
        ·rw[snoc] at hi'
         rcases az.mp hi' with q1 | q1
         ·exact hok.all i' q1 w' y' z' h1 h2 h3
         ·obtain rfl:=ag.mp q1
          rw[hwy] at h1
          obtain⟨rfl,rfl⟩:=aV (aa h1)
          rw[Sq] at h3
          obtain rfl:=aa h3
          exact⟨r0,hEw,her⟩
 ·rintro σ H1 ⟨s1,⟨x,u,vv,rfl⟩,E,kvs,he1,hE,hok,hEl⟩
  rw[ra] at hok hEl
  rw[cz] at hok
  exact⟨_,rfl,k H1 e E kvs s1 he1 he hE hok hEl⟩
end
end U
namespace U
open PySem PySem.Spec PyProof.Rows L2
open PySem.W (Codec)
open Ways KpFix
def cnt (ks:Known) (y:Way):Nat:=y.steps.countP fun s=>(look ks s.2).isNone
structure LI (q:SS) (pend:List Nat):Prop where
 len:q.dh.length=q.bx.length
 dh:∀ (i:Nat) (w:a3) (y:Way),q.bx[i]?=some (w,y)→q.dh[i]?=some (cnt q.known y+pend.count i)
 wait:∀ (u:a3) (a:Addr) (l:List Nat),look q.known u=none→look q.wait u=some (a,l)→∀ (i:Nat) (w:a3) (y:Way),q.bx[i]?=some (w,y)→l.count i=y.steps.countP fun s=>decide (s.2=u)
 KQ:∀ (u:a3) (a:Addr) (l:List Nat),look q.wait u=some (a,l)→∀ i∈l,i < q.bx.length
 dep:∀ (i:Nat) (w:a3) (y:Way),q.bx[i]?=some (w,y)→∀ s∈y.steps,look q.known s.2=none→∃ x,look q.wait s.2=some x
 key:∀ (i:Nat) (w:a3) (y:Way),q.bx[i]?=some (w,y)→∃ x,look q.wait w=some x
 rin:∀ (i:Nat) (w:a3) (y:Way) (z:Nat×bc),q.bx[i]?=some (w,y)→pend.count i=0→raw (Kf q.known) y=some z→z.1≤200→∃ a r,q.ready[z.1]?=some (a,r)∧i∈r
 rof:∀ (n:Nat) (a:Addr) (r:List Nat),q.ready[n]?=some (a,r)→r.Nodup∧∀ i∈r,∃ w y row,q.bx[i]?=some (w,y)∧pend.count i=0∧raw (Kf q.known) y=some (n,row)
theorem Q5 {ks:Known}{y:Way}{z:Nat×bc} (e:raw (Kf ks) y=some z):cnt ks y=0:=by
 unfold cnt
 rw[nA]
 intro s hs
 obtain⟨x,hx⟩:=yD e hs
 rw[wZ hx]
 simp
theorem Em {k k':a3→bR}{y:Way} (h:∀ s∈y.steps,k s.2=k' s.2):raw k y=raw k' y:=by
 unfold raw
 congr 1
 exact bF fun s hs=>by rw[h s hs]
theorem val_congr {k k':a3→bR}{y:Way} (h:∀ s∈y.steps,k s.2=k' s.2):val k y=val k' y:=by
 unfold val
 rw[Em h]
theorem RL {ks:Known}{w:a3}{x:bR} (hn:look ks w=none) (u:a3) (h:u≠w):Kf (ks++[(w,x)]) u=Kf ks u:=by
 unfold Kf
 rw[kh ks w x u hn,if_neg h]
theorem Dl {α:Type} (p q r:α→Bool):∀ l:List α,(∀ x∈l,(if p x then 1 else 0)=(if q x then 1 else 0)+(if r x then 1 else 0))→l.countP p=l.countP q+l.countP r
 | [],_=>rfl
 | x::l,h=>by
   have ih:=Dl p q r l fun y hy=>h y (aG _ hy)
   have hx:=h x (aI ..)
   rw[rB,rB,rB,ih]
   omega
theorem U4 {ks:Known}{w:a3}{x:bR} (hn:look ks w=none) (y:Way):cnt ks y=cnt (ks++[(w,x)]) y+y.steps.countP fun s=>decide (s.2=w):=by
 unfold cnt
 refine Dl _ _ _ _ fun s _=>?_
 rw[kh ks w x s.2 hn]
 by_cases h:s.2=w
 ·rw[if_pos h,h,hn]
  simp
 ·rw[if_neg h]
  simp[h]
theorem LI.Zj {q:SS} (L:LI q []) {w0:a3}{x:bR}{a:Addr}{l:List Nat} (hn:look q.known w0=none) (hw:look q.wait w0=some (a,l)):LI { q with known:=q.known++[(w0,x)] } l:=by
 have none_of:∀ u,look (q.known++[(w0,x)]) u=none→look q.known u=none:=fun u h=>by
  rw[kh _ _ _ _ hn] at h
  by_cases e:u=w0
  ·rw[if_pos e] at h;cases h
  ·rw[if_neg e] at h;exact h
 have no:∀ (i:Nat) (w:a3) (y:Way),q.bx[i]?=some (w,y)→l.count i=0→∀ s∈y.steps,s.2≠w0:=fun i w y hi hc s hs e=>by
  rw[L.wait w0 a l hn hw i w y hi,nA] at hc
  exact hc s hs (decide_eq_true e)
 refine⟨L.len,fun i w y hi=>?_,fun u a' l' hu hw'=>L.wait u a' l' (none_of u hu) hw',L.KQ,fun i w y hi s hs h=>L.dep i w y hi s hs (none_of _ h),L.key,fun i w y z hi hc hr hz=>?_,fun n a' r hr=>⟨(L.rof n a' r hr).1,fun i hi=>?_⟩⟩
 ·rw[L.dh i w y hi,L.wait w0 a l hn hw i w y hi]
  show some (cnt q.known y+0)=some (cnt (q.known++[(w0,x)]) y+_)
  rw[U4 hn y,m7]
 ·have e:raw (Kf (q.known++[(w0,x)])) y=raw (Kf q.known) y:=Em fun s hs=>RL hn _ (no i w y hi hc s hs)
  exact L.rin i w y z hi rfl (by rw[← e];exact hr) hz
 ·obtain⟨w,y,row,h1,_,h3⟩:=(L.rof n a' r hr).2 i hi
  have hsn:∀ s∈y.steps,s.2≠w0:=fun s hs e=>by
   obtain⟨x,hx⟩:=yD h3 hs
   have:=wZ hx
   rw[e,hn] at this
   cases this
  refine⟨w,y,row,h1,?_,?_⟩
  ·rw[L.wait w0 a l hn hw i w y h1,nA]
   exact fun s hs=>by simpa using hsn s hs
  ·exact(Em fun s hs=>RL hn _ (hsn s hs)).trans h3
theorem vF (i:Nat) (l:List Nat):(i::l).count i=l.count i+1:=by rw[List.count_cons];simp
theorem oy {i j:Nat} (h:j≠i) (l:List Nat):(j::l).count i=l.count i:=by rw[List.count_cons];simp[h]
theorem LI.dec {q:SS}{i:Nat}{pend:List Nat} (L:LI q (i::pend)) (hi:i < q.bx.length):∃ w y c,q.bx[i]?=some (w,y)∧q.dh[i]?=some (c+1)∧
 (c≠0→LI { q with dh:=q.dh.set i c } pend)∧(c=0→(∀ s∈y.steps,∃ x,look q.known s.2=some x)∧(q.ready.length=201→LI (rdy { q with dh:=q.dh.set i c } i y) pend)):=by
 obtain⟨⟨w,y⟩,hwy⟩:∃ x,q.bx[i]?=some x:=⟨_,aK hi⟩
 have hl:=L.dh i w y hwy
 rw[vF,← Nat.add_assoc] at hl
 have hil:i < q.dh.length:=by rw[L.len];exact hi
 have NU:∀ (j:Nat) (w':a3) (y':Way),q.bx[j]?=some (w',y')→(q.dh.set i (cnt q.known y+pend.count i))[j]?=some (cnt q.known y'+pend.count j):=fun j w' y' hj=>by
  by_cases e:j=i
  ·subst e
   rw[hwy] at hj
   obtain⟨rfl,rfl⟩:=aV (aa hj)
   rw[b5 hil]
  ·rw[dj (br e),L.dh j w' y' hj,oy (br e)]
 have Mb:∀ (n:Nat) (a:Addr) (r:List Nat),q.ready[n]?=some (a,r)→r.Nodup∧∀ j∈r,j≠i∧∃ w y row,q.bx[j]?=some (w,y)∧pend.count j=0∧raw (Kf q.known) y=some (n,row):=fun n a r hr=>by
  refine⟨(L.rof n a r hr).1,fun j hj=>?_⟩
  obtain⟨w',y',row,h1,h2,h3⟩:=(L.rof n a r hr).2 j hj
  have hne:j≠i:=fun e=>by
   rw[e,vF] at h2
   omega
  exact⟨hne,w',y',row,h1,by rw[oy (br hne)] at h2;exact h2,h3⟩
 refine⟨w,y,cnt q.known y+pend.count i,hwy,hl,fun hc=>?_,fun hc=>⟨fun s hs=>?_,fun Yj=>?_⟩⟩
 ·refine⟨by show(q.dh.set i _).length=_;rw[kR];exact L.len,NU,L.wait,L.KQ,L.dep,L.key,fun j w' y' z hj hp hr hz=>?_,fun n a r hr=>⟨(Mb n a r hr).1,fun j hj=>((Mb n a r hr).2 j hj).2⟩⟩
  refine L.rin j w' y' z hj ?_ hr hz
  have hne:j≠i:=fun e=>by
   subst e
   rw[hwy] at hj
   obtain⟨rfl,rfl⟩:=aV (aa hj)
   have h1:cnt q.known y=0:=Q5 hr
   have h2:pend.count j=0:=hp
   exact hc (by omega)
  rw[oy (br hne)]
  exact hp
 ·have h0:cnt q.known y=0:=by omega
  unfold cnt at h0
  rw[nA] at h0
  have:=h0 s hs
  cases e:look q.known s.2 with
  | none=>rw[e] at this;simp at this
  | some x=>exact⟨x,rfl⟩
 ·have hp0:pend.count i=0:=by omega
  have base:∀ rd:List (Addr×List Nat),(∀ (j:Nat) (w':a3) (y':Way) (z:Nat×bc),q.bx[j]?=some (w',y')→pend.count j=0→raw (Kf q.known) y'=some z→z.1≤200→∃ a r,rd[z.1]?=some (a,r)∧j∈r)→
   (∀ (n:Nat) (a:Addr) (r:List Nat),rd[n]?=some (a,r)→r.Nodup∧∀ j∈r,∃ w y row,q.bx[j]?=some (w,y)∧pend.count j=0∧raw (Kf q.known) y=some (n,row))→
   LI { q with dh:=q.dh.set i (cnt q.known y+pend.count i),ready:=rd } pend:=fun rd h1 h2=>
   ⟨by show(q.dh.set i _).length=_;rw[kR];exact L.len,NU,L.wait,L.KQ,L.dep,L.key,h1,h2⟩
  have other:∀ (j:Nat) (w':a3) (y':Way) (z:Nat×bc),j≠i→q.bx[j]?=some (w',y')→pend.count j=0→raw (Kf q.known) y'=some z→z.1≤200→∃ a r,q.ready[z.1]?=some (a,r)∧j∈r:=fun j w' y' z hne hj hp hr hz=>
   L.rin j w' y' z hj (by rw[oy (br hne)];exact hp) hr hz
  have me:∀ w' y',q.bx[i]?=some (w',y')→y'=y:=fun w' y' h=>by
   rw[hwy] at h
   exact(aV (aa h)).2.symm
  unfold rdy
  dsimp only
  cases hr:raw (Kf q.known) y with
  | none=>
    refine base q.ready (fun j w' y' z hj hp h hz=>?_) fun n a r h=>⟨(Mb n a r h).1,fun j hj=>((Mb n a r h).2 j hj).2⟩
    by_cases e:j=i
    ·subst e
     rw[me w' y' hj,hr] at h
     cases h
    ·exact other j w' y' z e hj hp h hz
  | some z=>
    dsimp only
    by_cases hz:z.1≤200
    ·rw[if_pos hz]
     obtain⟨⟨a,r⟩,hrd⟩:∃ x,q.ready[z.1]?=some x:=⟨_,aK (by omega)⟩
     rw[hrd]
     dsimp only
     have hzl:z.1 < q.ready.length:=by omega
     refine base _ (fun j w' y' z' hj hp h hz'=>?_) fun n a' r' h=>?_
     ·by_cases e:j=i
      ·subst e
       rw[me w' y' hj,hr] at h
       obtain rfl:=aa h
       exact⟨a,r++[j],b5 hzl,aO _ (ag.mpr rfl)⟩
      ·obtain⟨a',r',g1,g2⟩:=other j w' y' z' e hj hp h hz'
       by_cases ez:z'.1=z.1
       ·rw[ez,hrd] at g1
        obtain⟨rfl,rfl⟩:=aV (aa g1)
        exact⟨a,r++[i],by rw[ez];exact b5 hzl,aQ _ g2⟩
       ·exact⟨a',r',by rw[dj (br ez)];exact g1,g2⟩
     ·by_cases en:n=z.1
      ·subst en
       rw[b5 hzl] at h
       obtain⟨rfl,rfl⟩:=aV (aa h)
       obtain⟨nd,hof⟩:=Mb _ _ _ hrd
       refine⟨ua nd fun hm=>(hof i hm).1 rfl,fun j hj=>?_⟩
       rcases az.mp hj with hj | hj
       ·exact(hof j hj).2
       ·obtain rfl:=ag.mp hj
        exact⟨w,y,z.2,hwy,hp0,hr⟩
      ·rw[dj (br en)] at h
       exact⟨(Mb n a' r' h).1,fun j hj=>((Mb n a' r' h).2 j hj).2⟩
    ·rw[if_neg hz]
     refine base q.ready (fun j w' y' z' hj hp h hz'=>?_) fun n a r h=>⟨(Mb n a r h).1,fun j hj=>((Mb n a r h).2 j hj).2⟩
     by_cases e:j=i
     ·subst e
      rw[me w' y' hj,hr] at h
      obtain rfl:=aa h
      exact absurd hz' hz
     ·exact other j w' y' z' e hj hp h hz'
end U
namespace U
open PySem PySem.Spec PyProof.Rows L2
open PySem.W (Codec)
open Ways KpFix
structure JI (b:ax) (q:SS) (p:Nat):Prop where
 own:∀ (i:Nat) (w:a3) (y:Way),q.bx[i]?=some (w,y)→okW b y∧inB b w∧y∈eB b w
 Xc:∀ (w:a3) (z:Nat×bc),Kf q.known w=some z→z.2.length+1≤3 * z.1∧z.1≤200
 j1:∀ (w:a3) (z:Nat×bc),look q.wait w≠none→Kf q.known w=some z→z.1 < p∧(∃ (i:Nat) (y:Way),q.bx[i]?=some (w,y)∧val (Kf q.known) y=some z)∧∀ (i:Nat) (y:Way) (z':Nat×bc),q.bx[i]?=some (w,y)→val (Kf q.known) y=some z'→ble z z'
 j2:∀ (i:Nat) (w:a3) (y:Way) (z:Nat×bc),q.bx[i]?=some (w,y)→val (Kf q.known) y=some z→z.1 < p→look q.known w≠none
 kn:∀ (w:a3) (x:bR),look q.known w=some x→look q.wait w≠none→x≠none
 old:∀ (w:a3) (x:bR),look q.known w=some x→look q.wait w=none→x=KS b w
theorem OB {α:Type} (ks E:List (a3×α)) (u:a3):look (ks++E) u=match look ks u with | some x=>some x | none=>look E u:=by
 induction ks with
 | nil=>rfl
 | cons x ks ih=>
   rw[mW,dP,dP,ih]
   by_cases h:x.1=u
   ·rw[if_pos h,if_pos h]
   ·rw[if_neg h,if_neg h]
theorem OA {α β:Type} (f:α→β) (E:List (a3×α)) (u:a3):look (E.map fun x=>(x.1,f x.2)) u=(look E u).map f:=by
 induction E with
 | nil=>rfl
 | cons x E ih=>
   rw[aU,dP,dP,ih]
   by_cases h:x.1=u
   ·rw[if_pos h,if_pos h];rfl
   ·rw[if_neg h,if_neg h]
theorem Lx:∀ (l:List (bc×bR)) (a:Nat) (r:bc) (z:Nat×bc),l.foldl put (some (a,r))=some z→∀ x∈l,∀ u,x.2=some u→a+u.1≤z.1
 | [],a,r,z,e,x,hx,u,hu=>by cases hx
 | (r',v)::l,a,r,z,e,x,hx,u,hu=>by
   rw[bu] at e
   cases v with
   | none=>
     have:put (some (a,r)) (r',none)=none:=rfl
     rw[this,ie] at e
     cases e
   | some v=>
     have e:l.foldl put (some (a+v.1,r++(r'++v.2)))=some z:=e
     rcases aC.mp hx with rfl | hx
     ·obtain rfl:=aa hu
      exact tf _ _ _ _ e
     ·have:=Lx l _ _ z e x hx u hu
      omega
theorem Ts {k:a3→bR}{y:Way}{z:Nat×bc} (e:raw k y=some z) {s:List Nat×a3} (hs:s∈y.steps) {u:Nat×bc} (hu:k s.2=some u):y.own+u.1≤z.1:=
 Lx _ _ _ _ e (s.1,k s.2) (ay.mpr ⟨s,hs,rfl⟩) u hu
theorem B5 {k:a3→bR}{y:Way}{z:Nat×bc} (e:val k y=some z):raw k y=some z∧z.1≤200:=by
 unfold val at e
 rw[dQ] at e
 cases h:raw k y with
 | none=>rw[h] at e;cases e
 | some u=>
   rw[h] at e
   by_cases k:u.1≤Kp190.PARTS
   ·rw[bO k] at e
    obtain rfl:=aa e
    exact⟨rfl,k⟩
   ·rw[cD k] at e;cases e
theorem VF {k:a3→bR}{y:Way}{z:Nat×bc} (e:raw k y=some z) (h:z.1≤200):val k y=some z:=by
 unfold val
 rw[dQ,e,bO (show z.1≤Kp190.PARTS from h)]
theorem N0 {b:ax}{k:a3→bR}{y:Way} (hy:okW b y) (hk:∀ w z,k w=some z→z.2.length+1≤3 * z.1) {z:Nat×bc} (e:raw k y=some z):z.2.length+1≤3 * z.1:=by
 refine EU _ (fun x hx=>?_) _ (fun z e=>?_) z e
 ·obtain⟨s,hs,rfl⟩:=ay.mp hx
  exact⟨(hy.2 s hs).2,fun z e=>hk _ z e⟩
 ·obtain rfl:=aa e
  exact hy.1.2
theorem JI.settle {b:ax}{q q':SS}{p:Nat}{a:Addr}{ps:List Nat}{E:List (a3×bc)} (J:JI b q p) (L:LI q []) (hp:p≤200) (hr:q.ready[p]?=some (a,ps)) (hE:EOk q p ps E)
 (hk:q'.known=q.known++E.map fun x=>(x.1,(some (p,x.2):bR))) (hw:q'.bx=q.bx) (hwt:q'.wait=q.wait):JI b q' (p+1):=by
 have OC:∀ u,look q'.known u=match look q.known u with | some x=>some x | none=>(look E u).map fun r=>(some (p,r):bR):=fun u=>by
  rw[hk,OB,OA (fun r=>(some (p,r):bR)) E u]
  cases look q.known u<;>rfl
 have lk:∀ u x,look q.known u=some x→look q'.known u=some x:=fun u x h=>by rw[OC,h]
 have F1:∀ u z,Kf q.known u=some z→Kf q'.known u=some z:=fun u z h=>by
  unfold Kf
  rw[lk u _ (wZ h)]
  rfl
 have F2:∀ u z,Kf q'.known u=some z→Kf q.known u=some z∨(look q.known u=none∧∃ r,look E u=some r∧z=(p,r)):=fun u z h=>by
  have h':=wZ h
  rw[OC] at h'
  cases e:look q.known u with
  | some x=>
    rw[e] at h'
    have h':x=some z:=aa h'
    refine .inl ?_
    unfold Kf
    rw[e,h']
    rfl
  | none=>
    rw[e] at h'
    obtain⟨r,hr,h'⟩:=cY.mp h'
    exact .inr ⟨rfl,r,hr,(aa h').symm⟩
 have F3:∀ (y:Way) z,val (Kf q.known) y=some z→val (Kf q'.known) y=some z:=fun y z h=>by
  obtain⟨h1,h2⟩:=B5 h
  rw[← h]
  refine val_congr fun s hs=>?_
  obtain⟨x,hx⟩:=yD h1 hs
  rw[hx,F1 _ _ hx]
 have F4:∀ (y:Way) z,okW b y→val (Kf q'.known) y=some z→val (Kf q.known) y=some z∨p < z.1:=fun y z hy h=>by
  obtain⟨h1,h2⟩:=B5 h
  by_cases iX:∀ s∈y.steps,Kf q.known s.2=Kf q'.known s.2
  ·exact .inl ((val_congr iX).trans h)
  ·refine .inr ?_
   obtain⟨s,hs,hne⟩:∃ s∈y.steps,Kf q.known s.2≠Kf q'.known s.2:=Classical.byContradiction fun z=>iX fun s hs=>Classical.byContradiction fun hne=>z ⟨s,hs,hne⟩
   obtain⟨u,hu⟩:=yD h1 hs
   rcases F2 _ _ hu with g | ⟨_,r,_,rfl⟩
   ·exact absurd (g.trans hu.symm) hne
   ·have:=Ts h1 hs hu
    have:=hy.1.1
    dsimp only at *
    omega
 have ofE:∀ w r,look E w=some r→look q.known w=none∧∃ (i:Nat) (y:Way),i∈ps∧q.bx[i]?=some (w,y)∧val (Kf q.known) y=some (p,r):=fun w r h=>by
  obtain⟨h1,i,hi,y,h2,h3⟩:=hE.of w r h
  exact⟨h1,i,y,hi,h2,VF h3 hp⟩
 have inE:∀ (i:Nat) w y z,q.bx[i]?=some (w,y)→val (Kf q.known) y=some z→z.1=p→look q.known w=none→∃ r,look E w=some r∧rle r z.2:=fun i w y z hi hv hz hn=>by
  obtain⟨h1,h2⟩:=B5 hv
  obtain⟨a',r',g1,g2⟩:=L.rin i w y z hi rfl h1 h2
  rw[hz,hr] at g1
  obtain⟨_,rfl⟩:=aV (aa g1)
  exact hE.all i g2 w y z hi hn h1
 refine⟨fun i w y h=>J.own i w y (by rw[← hw];exact h),fun w z h=>?_,fun w z Fp h=>?_,fun i w y z hi hv hz=>?_,fun w x h Fp=>?_,fun w x h Fp=>?_⟩
 ·rcases F2 w z h with g | ⟨_,r,hr',rfl⟩
  ·exact J.Xc w z g
  ·obtain⟨_,i,y,_,h2,h3⟩:=ofE w r hr'
   exact⟨N0 (J.own i w y h2).1 (fun w z h=>(J.Xc w z h).1) (B5 h3).1,hp⟩
 ·rw[hwt] at Fp
  rcases F2 w z h with g | ⟨hn,r,hr',rfl⟩
  ·obtain⟨h1,⟨i,y,h2,h3⟩,h4⟩:=J.j1 w z Fp g
   refine⟨by omega,⟨i,y,by rw[hw];exact h2,F3 y z h3⟩,fun i' y' z' hi' hv'=>?_⟩
   rw[hw] at hi'
   rcases F4 y' z' (J.own i' w y' hi').1 hv' with g' | g'
   ·exact h4 i' y' z' hi' g'
   ·exact .inl (by omega)
  ·obtain⟨_,i,y,_,h2,h3⟩:=ofE w r hr'
   refine⟨by show p < p+1;omega,⟨i,y,by rw[hw];exact h2,F3 y _ h3⟩,fun i' y' z' hi' hv'=>?_⟩
   rw[hw] at hi'
   rcases F4 y' z' (J.own i' w y' hi').1 hv' with g' | g'
   ·rcases Nat.lt_trichotomy z'.1 p with q1 | q1 | q1
    ·exact absurd hn (J.j2 i' w y' z' hi' g' q1)
    ·obtain⟨r',g1,g2⟩:=inE i' w y' z' hi' g' q1 hn
     rw[hr'] at g1
     obtain rfl:=aa g1
     exact .inr ⟨q1.symm,g2⟩
    ·exact .inl q1
   ·exact .inl g'
 ·rw[hw] at hi
  rcases F4 y z (J.own i w y hi).1 hv with g | g
  ·cases hk':look q.known w with
   | some x=>rw[lk w x hk'];exact fun z=>nomatch z
   | none=>
     rcases qd z.1 p with q1 | q1
     ·exact absurd hk' (J.j2 i w y z hi g q1)
     ·obtain⟨r,g1,_⟩:=inE i w y z hi g (by omega) hk'
      rw[OC,hk',g1]
      exact fun z=>nomatch z
  ·omega
 ·rw[OC] at h
  cases e:look q.known w with
  | some x'=>
    rw[e] at h
    obtain rfl:=aa h
    exact J.kn w _ e (by rw[← hwt];exact Fp)
  | none=>
    rw[e] at h
    obtain⟨r,hr,rfl⟩:=cY.mp h
    exact fun z=>nomatch z
 ·rw[OC] at h
  cases e:look q.known w with
  | some x'=>
    rw[e] at h
    obtain rfl:=aa h
    exact J.old w _ e (by rw[← hwt];exact Fp)
  | none=>
    rw[e] at h
    obtain⟨r,hr,rfl⟩:=cY.mp h
    obtain⟨_,i,y,_,h2,_⟩:=ofE w r hr
    obtain⟨x,hx⟩:=L.key i w y h2
    rw[hwt,hx] at Fp
    cases Fp
theorem JI.done {b:ax}{q:SS} (hc:cM b=true) (hn:∀ x∈b,Ku x) (J:JI b q 201) (L:LI q []) (iX:∀ w,look q.wait w≠none→inB b w∧∀ y∈eB b w,∃ i:Nat,q.bx[i]?=some (w,y)):
 ∀ w,look q.wait w≠none→Kf q.known w=KS b w:=by
 have fix:∀ w,look q.wait w≠none→Kf q.known w=best (Kf q.known) (eB b w):=fun w hw=>by
  obtain⟨hin,WQ⟩:=iX w hw
  cases e:Kf q.known w with
  | some z=>
    obtain⟨_,⟨i,y,h2,h3⟩,h4⟩:=J.j1 w z hw e
    refine Iv (Lh fun x hx=>?_) (zg (ay.mpr ⟨y,(J.own i w y h2).2.2,h3⟩))
    obtain⟨y',hy',rfl⟩:=ay.mp hx
    obtain⟨i',hi'⟩:=WQ y' hy'
    intro z' hz'
    exact⟨z,rfl,h4 i' y' z' hi' hz'⟩
  | none=>
    cases eb:best (Kf q.known) (eB b w) with
    | none=>rfl
    | some z'=>
      obtain⟨y',hy',hv'⟩:=Jb eb
      obtain⟨i',hi'⟩:=WQ y' hy'
      have:=J.j2 i' w y' z' hi' hv' (by have:=(B5 hv').2;omega)
      cases hk:look q.known w with
      | none=>exact absurd hk this
      | some x=>
        have hx:=J.kn w x hk hw
        unfold Kf at e
        rw[hk] at e
        exact absurd e hx
 have zero:∀ w,look q.wait w≠none→cut 0 (Kf q.known w)=cut 0 (KS b w):=fun w hw=>by
  have z1:∀ (k:a3→bR),k w=best k (eB b w)→cut 0 (k w)=none:=fun k hk=>by
   cases e:k w with
   | none=>rfl
   | some z=>
     rw[hk] at e
     obtain⟨y,hy,e⟩:=Jb e
     have h1:=DZ e
     have h2:=(HS hc (iX w hw).1 y hy).1.1
     exact cD (by omega)
  rw[z1 _ (fix w hw),z1 _ (Nm hc hn (iX w hw).1)]
 have key:∀ p w,look q.wait w≠none→cut p (Kf q.known w)=cut p (KS b w):=by
  intro p
  induction p with
  | zero=>exact zero
  | succ p ih=>
    intro w hw
    rw[fix w hw,Nm hc hn (iX w hw).1]
    refine sv (p+1) (B9 fun y hy=>QW (HS hc (iX w hw).1 y hy).1.1 fun s hs=>?_)
    cases hwt:look q.wait s.2 with
    | some x=>exact ih s.2 (by rw[hwt];exact fun z=>nomatch z)
    | none=>
      obtain⟨i,hi⟩:=(iX w hw).2 y hy
      cases hk:look q.known s.2 with
      | none=>
        obtain⟨x,hx⟩:=L.dep i w y hi s hs hk
        rw[hwt] at hx
        cases hx
      | some x=>
        have:=J.old s.2 x hk hwt
        unfold Kf
        rw[hk,this]
        rfl
 exact fun w hw=>U3 fun p=>key p w hw
end U
namespace U
open PySem PySem.Spec PyProof.Rows L2
open PySem.W (Codec)
open Ways KpFix
theorem Iw {α:Type} [DecidableEq α] (a:α):∀ l:List α,l.Nodup→l.length≤(l.filter fun x=>decide (x≠a)).length+1
 | [],_=>by simp
 | x::l,nd=>by
   rw[c7] at nd
   rw[ya]
   by_cases h:x=a
   ·subst h
    rw[if_neg (by simp)]
    have:l.filter (fun y=>decide (y≠x))=l:=List.filter_eq_self.mpr fun y hy=>decide_eq_true fun z=>nd.1 (z▸hy)
    rw[this,aM]
    exact aB _
   ·rw[if_pos (by simp[h]),aM,aM]
    have:=Iw a l nd.2
    omega
theorem sY {α:Type} [DecidableEq α]:∀ (L l:List α),l.Nodup→(∀ x∈l,x∈L)→l.length≤L.length
 | [],l,_,h=>by
   cases l with
   | nil=>exact aB _
   | cons x l=>exact absurd (h x (aI ..)) (by simp)
 | a::L,l,nd,h=>by
   have h1:=Iw a l nd
   have h2:=sY L (l.filter fun x=>decide (x≠a)) (nd.filter _) fun x hx=>by
    obtain⟨hx,hn⟩:=eL.mp hx
    rcases aC.mp (h x hx) with e | e
    ·exact absurd e (of_decide_eq_true hn)
    ·exact e
   rw[aM]
   omega
def SO (n:Nat):List a3:=(bS n).flatMap fun(s:Nat)=>((s:Int),(-1:Int))::(bS n).map fun(t:Nat)=>((s:Int),(t:Int))
theorem Im {b:ax}{w:a3} (h:inB b w):w∈SO b.length:=by
 obtain⟨⟨h0,h1⟩,h2⟩:=h
 refine List.mem_flatMap.mpr ⟨w.1.toNat,hX.mpr h1,?_⟩
 have e1:((w.1.toNat:Nat):Int)=w.1:=by omega
 rcases h2 with h2 | ⟨h2,h3⟩
 ·rw[e1,← h2]
  exact aI ..
 ·refine aG _ (ay.mpr ⟨w.2.toNat,hX.mpr h3,?_⟩)
  have e2:((w.2.toNat:Nat):Int)=w.2:=by omega
  rw[e1,e2]
theorem Je {n:Nat} (h:n≤16):(SO n).length≤272:=by
 unfold SO
 rw[List.length_flatMap]
 have:∀ l:List Nat,(l.map fun(s:Nat)=>(((s:Int),(-1:Int))::(bS n).map fun(t:Nat)=>((s:Int),(t:Int))).length).sum=l.length * (n+1):=fun l=>by
  induction l with
  | nil=>simp
  | cons x l ih=>
    rw[aU,List.sum_cons,ih,aM,ae,bJ,aM,Nat.succ_mul]
    omega
 rw[this,bJ]
 have:n * (n+1)≤16 * 17:=Nat.mul_le_mul h (by omega)
 omega
structure SB (b:ax) (q:SS):Prop where
 kn:(q.known.map (·.1)).Nodup
 ki:∀ w∈q.known.map (·.1),inB b w
 wi:∀ w∈q.wait.map (·.1),inB b w
 wb:q.bx.length≤50000
 b16:b.length≤16
theorem SB.known {b:ax}{q:SS} (B:SB b q):q.known.length≤272:=by
 have:=sY (SO b.length) (q.known.map (·.1)) B.kn fun w hw=>Im (B.ki w hw)
 rw[ae] at this
 have:=Je B.b16
 omega
theorem El {q:SS}{pend:List Nat} (L:LI q pend) {x:Addr×List Nat} (h:x∈q.ready):x.2.length≤q.bx.length:=by
 obtain⟨n,hn⟩:=Av.mp h
 obtain⟨nd,hof⟩:=L.rof n x.1 x.2 hn
 have:=sY (bS q.bx.length) x.2 nd fun i hi=>by
  obtain⟨w,y,row,h1,_⟩:=hof i hi
  exact hX.mpr (aP.mp h1).1
 rw[bJ] at this
 exact this
section
variable {P:Program}{w:World}{K:ai}{mg:Str→Option Value}{base:Heap}{t:Adr}
def Yv:HO→Prop
 | .lst _=>False
 | .tup _=>False
 | .ins _ _ _=>False
 | _=>True
theorem SAt.WZ {S:Addr→Prop}{H:Hp}{sr:Addr}{d:Ad}{b:ax}{q:SS} (A:SAt t S H sr d b q) {e:Addr}{u o:HO} (h:H e=some u) (hu:Yv u) (n1:e≠d.kd) (n2:e≠d.wd):SAt t S (upd H e o) sr d b q:=by
 have kl:∀ a xs,H a=some (.lst xs)→upd H e o a=some (.lst xs):=fun a xs ha=>by rw[aN (cu ha h fun z=>by rw[← z] at hu;exact hu)];exact ha
 have kt:∀ a xs,H a=some (.tup xs)→upd H e o a=some (.tup xs):=fun a xs ha=>by rw[aN (cu ha h fun z=>by rw[← z] at hu;exact hu)];exact ha
 have dv:∀ {v:V}{x:D},Dv S H v x→Dv S (upd H e o) v x:=fun z=>yV kt (fun a xs _=>kl a xs) _ _ z
 refine⟨?_,dv A.book,?_,?_,kl _ _ A.dh,?_,fun x hx=>kl _ _ (A.xo x hx),kl _ _ A.ready,fun x hx=>kl _ _ (A.pE x hx),A.Bh,A.nd,A.ns,A.kw,A.wk⟩
 ·obtain⟨dx,ho⟩:=A.obj;exact⟨dx,by rw[aN (cu ho h fun z=>by rw[← z] at hu;exact hu)];exact ho⟩
 ·obtain⟨kvs,hk,k⟩:=A.known;exact⟨kvs,by rw[aN (br n1)];exact hk,k.imp fun v x z=>dv z⟩
 ·obtain⟨ws,hw,k⟩:=A.bx;exact⟨ws,kl _ _ hw,iD kt (fun a xs _=>kl a xs) _ _ k⟩
 ·obtain⟨kvs,hk,k⟩:=A.wait;exact⟨kvs,by rw[aN (br n2)];exact hk,k⟩
theorem Lw {d:Addr}{o:Obj}{kvs:List (List Key×V)}{g:TG}{tb:TS}{D:Ends}{σ:L2.St}{H:Hp} (Pv:Nat→L2.St→Hp→Prop) (h0:Pv 0 σ H) (hl:∀ i σ H,i≤kvs.length→Pv i σ H→H d=some (.frz o (.dT kvs)))
 (hs:∀ (i:Nat) k v q σ H,kvs[i]?=some (k,v)→H q=some (.tup (k.map kV))→Pv i σ H→g (.ref q) σ H fun σ2 H2=>tb { D with nx:=Pv (i+1),ct:=Pv (i+1),bk:=D.nx } σ2 H2) (hd:∀ σ H,Pv kvs.length σ H→D.nx σ H):
 ∃ W:Nat→Nat→L2.St→Hp→Prop,(∃ m,W 0 m σ H)∧∀ i m σ H,W i m σ H→
   ((Vn d o kvs).stop i H∧D.nx σ H)∨((Vn d o kvs).go i H∧∃ N:L2.St→Hp→Prop,(∀ σ' H',N σ' H'→∃ m',m' < m∧W (i+1) m' σ' H')∧∀ x H',(Vn d o kvs).yld i H x H'→g x σ H' fun σ2 H2=>tb { D with nx:=N,ct:=N,bk:=D.nx } σ2 H2):=by
 refine⟨fun i m σ H=>m=kvs.length - i∧i≤kvs.length∧Pv i σ H,⟨kvs.length,by simp,aT _,h0⟩,?_⟩
 rintro i m σ H ⟨rfl,hi,p⟩
 have q:=hl i σ H hi p
 by_cases hlt:i < kvs.length
 ·refine .inr ⟨⟨q,hlt⟩,Pv (i+1),fun σ' H' p'=>⟨kvs.length - (i+1),by omega,rfl,hlt,p'⟩,fun x H' y=>?_⟩
  obtain⟨e,k,v,a,hk,rfl,ha⟩:=y
  subst e
  exact hs i k v a σ _ hk ha p
 ·have e:i=kvs.length:=by omega
  subst e
  exact .inl ⟨⟨q,aB _⟩,hd σ H p⟩
theorem V3 {n j:Nat} (h:j < n):ixN n (j:Int)=some j:=by
 unfold ixN
 rw[if_pos (by omega),if_pos (by omega),cc]
theorem XF (l:List Nat) (i c:Nat):(nV l).set i (.int c)=nV (l.set i c):=by
 unfold nV nI
 rw[bt,bt,List.map_set]
 rfl
theorem MJ {l:List Nat}{i c:Nat} (h:l[i]?=some c):(nV l)[i]?=some (.int c):=by
 unfold nV nI
 rw[bq,bq,h]
 rfl
theorem TabAt.nth {α:Type}{G:V→α→Prop}{kvs:List (List Key×V)}{ks:List (a3×α)} (h:TabAt G kvs ks) {i:Nat}{k:List Key}{v:V} (e:kvs[i]?=some (k,v)):∃ w x,ks[i]?=some (w,x)∧k=jK w∧G v x:=by
 obtain⟨⟨w,x⟩,h1,h2,h3⟩:=HK h e
 exact⟨w,x,h1,h2,h3⟩
theorem Qr {α:Type}{E:List (a3×α)} (nd:(E.map (·.1)).Nodup) {i:Nat}{w:a3}{x:α} (h:E[i]?=some (w,x)):look E w=some x:=by
 obtain⟨y,hy⟩:=vn (ks:=E) (w:=w) (ay.mpr ⟨_,a7 h,rfl⟩)
 have:=CO nd (oa hy) (a7 h) rfl
 rw[hy,(aV this).2]
theorem Q2 (q:SS) (i:Nat) (y:Way):(rdy q i y).known=q.known∧(rdy q i y).bx=q.bx∧(rdy q i y).dh=q.dh∧(rdy q i y).wait=q.wait∧(rdy q i y).ready.map (·.1)=q.ready.map (·.1):=by
 unfold rdy
 split
 ·split
  ·split
   ·rename_i x h
    exact⟨rfl,rfl,rfl,rfl,map_set _ _ _ _ _ h rfl⟩
   ·exact⟨rfl,rfl,rfl,rfl,rfl⟩
  ·exact⟨rfl,rfl,rfl,rfl,rfl⟩
 ·exact⟨rfl,rfl,rfl,rfl,rfl⟩
theorem GL {d:Ad}{q q':SS} (h1:q'.wait=q.wait) (h2:q'.ready.map (·.1)=q.ready.map (·.1)):cS d q'=cS d q:=by
 unfold cS
 rw[h1,h2]
end
end U
namespace U
open PySem PySem.Spec PyProof.Rows L2
open PySem.W (Codec)
open Ways KpFix
section
variable {P:Program}{w:World}{K:ai}{mg:Str→Option Value}{base:Heap}{t:Adr}
theorem zA.ext {S:Addr→Prop}{M:List Addr}{H H':Hp} (x:Ext M H H') (n:∀ m∈M,¬ S m) {v:V}{r:bc} (h:zA S H v r):zA S H' v r:=by
 obtain⟨a,e,hs,ha⟩:=h
 exact⟨a,e,hs,x _ _ ha fun z=>n a z hs⟩
def fE (p:Nat) (x:a3×bc):a3×bR:=(x.1,some (p,x.2))
theorem Ta {α:Type}{E:List (a3×α)} (nd:(E.map (·.1)).Nodup) {j:Nat}{w:a3}{x:α} (h:E[j]?=some (w,x)):look (E.take j) w=none:=by
 refine T6 fun hm=>?_
 have e:=congrArg (xY (·.1)) (cV h)
 rw[aJ] at e
 have nd2:((E.take (j+1)).map (·.1)).Nodup:=by
  rw[List.map_take]
  exact nd.sublist (List.take_sublist _ _)
 rw[e] at nd2
 exact(ly.mp nd2).2.2 _ hm _ (ag.mpr rfl) rfl
theorem TabAt.keys {α:Type}{G:V→α→Prop}{kvs:List (List Key×V)}{ks:List (a3×α)} (h:TabAt G kvs ks):kvs.map (·.1)=(ks.map (·.1)).map jK:=by
 induction h with
 | nil=>rfl
 | @cons kv x kvs ks hx _ ih=>
   rw[aU,aU,aU,ih,hx.1]
theorem NG {κ:Type} [DecidableEq κ]:∀ {kvs:List (κ×V)},(kvs.map (·.1)).Nodup→∀ {i:Nat}{k:κ}{v:V},kvs[i]?=some (k,v)→rU kvs k=some v
 | [],_,i,k,v,h=>by simp at h
 | x::kvs,nd,0,k,v,h=>by
   obtain rfl:=aa h
   exact uU rfl
 | x::kvs,nd,i+1,k,v,h=>by
   rw[aU,c7] at nd
   have h:kvs[i]?=some (k,v):=h
   rw[uV fun z=>nd.1 (by rw[z];exact ay.mpr ⟨_,a7 h,rfl⟩)]
   exact NG nd.2 h
theorem TabAt.nd {α:Type}{G:V→α→Prop}{kvs:List (List Key×V)}{ks:List (a3×α)} (h:TabAt G kvs ks) (nd:(ks.map (·.1)).Nodup):(kvs.map (·.1)).Nodup:=by
 rw[h.keys]
 exact List.Pairwise.map _ (fun a b hab z=>hab (IB z)) nd
theorem SAt.LM {S:Addr→Prop}{H:Hp}{sr:Addr}{d:Ad}{b:ax}{q:SS} (A:SAt t S H sr d b q) {u:a3}{a:Addr}{l:List Nat} (h:look q.wait u=some (a,l)):H a=some (.lst (nV l)):=A.xo _ (oa h)
def Ec (t:Adr):Sp:=fun vs H Q _=>Ex6 fun(S:Addr→Prop) (sr:Addr) (d:Ad) (b:ax) (q:SS) (p:Nat)=>vs=[.ref sr,.int p]∧p≤200∧SAt t S H sr d b q∧LI q []∧JI b q p∧SB b q∧
 ∀ H' q',SAt t (nw S H) H' sr d b q'→LI q' []→JI b q' (p+1)→SB b q'→q'.bx=q.bx→q'.wait=q.wait→q'.ready.map (·.1)=q.ready.map (·.1)→Ext (eN d q) H H'→Q .non H'
theorem Ey (T:Txt K mg t):cI P w K mg base CX0 3 t.ip t.jW ["self","parts"] (Ec t):=by
 refine T.j5.ok lG (fun vs H Q E h=>by obtain⟨_,_,_,_,_,_,e,_⟩:=h;subst e;rfl) (fun cdv A outer s H vs Q E hr h=>?_)
 obtain⟨S,sr,d,b,q,p,rfl,hp,A,L,J,B,k⟩:=h
 have hu:=AF hr
 refine⟨_,(ak (bW (i:=2) lG.nd rfl (ba rfl) (cn (pv 0) T.bU T.wX (vg T) (hr.mono (by decide)) T.xa .nil bw (ah (pv 1) aq)))
  (aA (Q9 (iW PassesOwn.never rfl (Rc (pv 2)) (cg (i:=3) lG.nd rfl (ba rfl)) (ak (CG hu (bI (pv 0) rfl) (pv 3) (dG (ah (pv 1) (ah (wH hu (pv 2) (pv 3) (fun _ _=>rfl)) aq))) rfl)
  (aA (iW PassesOwn.never rfl (eY (wH hu (bI (pv 0) rfl) (pv 3) (fun _ _=>rfl))) (cg (i:=4) lG.nd rfl (ba rfl)) (ak (Xu (i4 HN (a9 fj (bI (pv 0) rfl) (pv 4) (fun _ _=>rfl)) aH) (Xw (bI (pv 0) rfl) (pv 4) set_list))
  (aA (b9 (bo fe (a9 fj (bI (pv 0) rfl) (pv 4) (fun _ _=>rfl)) aH (bL _)) (aA (cw (cn (pv 0) T.bU T.rO (qu T) (hr.mono (by decide)) T.rQ .nil bw (ah (pv 4) aq)))) bp)))))))))),?_⟩
 obtain⟨dx,ho⟩:=A.obj
 obtain⟨⟨a0,ps⟩,hrp⟩:∃ x,q.ready[p]?=some x:=⟨_,aK (by rw[A.Bh];omega)⟩
 have hpl:ps.length≤q.bx.length:=El L (a7 hrp)
 have hps:∀ i∈ps,∃ w y r,q.bx[i]?=some (w,y)∧raw (Kf q.known) y=some (p,r)∧r.length≤100000:=fun i hi=>by
  obtain⟨w,y,row,h1,_,h3⟩:=(L.rof p a0 ps hrp).2 i hi
  have:=N0 (J.own i w y h1).1 (fun w z h=>(J.Xc w z h).1) h3
  dsimp only at this
  exact⟨w,y,row,h1,h3,by omega⟩
 refine⟨_,rfl,sr,dx,_,rfl,ho,rfl,_,rfl,S,sr,d,b,q,p,a0,ps,rfl,A,hrp,hps,by have:=B.wb;omega,fun H1 e E kvs s1 he hne hE hok hEl=>?_⟩
 refine⟨e,.dT kvs,he,trivial,fun od=>?_⟩
 have hlk:kvs.length=E.length:=hE.len
 have A1:=A.nw s1
 have nek:e≠d.kd:=by
  obtain⟨_,h,_⟩:=A.known
  exact br (bf h hne)
 have new:e≠d.wd:=by
  obtain⟨_,h,_⟩:=A.wait
  exact br (bf h hne)
 have Ml:∀ a∈cS d q,¬ nw S H a:=A1.ns
 have hfe:upd H1 e (.frz od (.dT kvs)) e=some (.frz od (.dT kvs)):=aE
 have A1':SAt t (nw S H) (upd H1 e (.frz od (.dT kvs))) sr d b q:=A1.WZ he trivial nek new
 have hE1:TabAt (zA (nw S H) (upd H1 e (.frz od (.dT kvs)))) kvs E:=hE.imp fun v x z=>by
  obtain⟨a,ev,hs,ha⟩:=z
  exact⟨a,ev,hs,by rw[aN (cu ha he (by intro z;cases z))];exact ha⟩
 have x1:Ext (eN d q) H (upd H1 e (.frz od (.dT kvs))):=fun c o hc _=>by rw[aN (bf hc hne)];exact s1 _ _ hc
 refine⟨_,rfl,e,od,rfl,.inr ⟨kvs,hfe,?_⟩⟩
 refine Lw (fun j σ Hj=>(∃ x y,σ=[some (.ref sr),some (.int p),some (.ref e),x,y])∧Hj e=some (.frz od (.dT kvs))∧TabAt (zA (nw S H) Hj) kvs E∧∃ qj,SAt t (nw S H) Hj sr d b qj∧LI qj []∧qj.known=q.known++(E.take j).map (fE p)∧qj.bx=q.bx∧qj.wait=q.wait∧qj.ready.map (·.1)=q.ready.map (·.1)∧Ext (eN d q) H Hj)
  ⟨⟨_,_,rfl⟩,hfe,hE1,q,A1',L,by simp,rfl,rfl,rfl,x1⟩ (fun i σ H' _ h=>h.2.1) ?_ ?_
 ·rintro j ky v qa σ Hj hj hqa ⟨⟨x,y,rfl⟩,hej,hEj,qj,Aj,Lj,hkj,hwj,wQ,hrj,xj⟩
  obtain⟨wt,r,hEw,rfl,ar,rfl,hsr,har⟩:=hEj.nth hj
  have hlE:=Qr hok.nd hEw
  obtain⟨hkn,i0,_,y0,acf,ac6⟩:=hok.of wt r hlE
  obtain⟨⟨aw,l⟩,hwl⟩:=L.key i0 wt y0 acf
  have ZQ:look qj.known wt=none:=by
   rw[hkj,OB,hkn]
   show look ((E.take j).map (fE p)) wt=none
   have:=OA (fun r=>(some (p,r):bR)) (E.take j) wt
   rw[Ta hok.nd hEw] at this
   exact this
  have hvE:rU kvs (jK wt)=some (.ref ar):=by
   exact NG (hEj.nd hok.nd) hj
  obtain⟨dxj,hoj⟩:=Aj.obj
  obtain⟨kvk,hkd,hkt⟩:=Aj.known
  refine⟨_,rfl,_,rfl,_,rfl,e,.ref ar,rfl,by rw[← hvE];exact .inr ⟨kvs,jK wt,qa,.inr ⟨od,hej⟩,rfl,hqa,rfl⟩,(by show 2≤sizeLine;decide),fun p2 hp2=>?_⟩
  have s2:=bg.new (o:=.tup [.int p,.ref ar]) hp2
  have A2:=Aj.same s2
  have hv2:Dv (nw S H) (upd Hj p2 (.tup [.int p,.ref ar])) (.ref p2) (knD (some (p,r))):=.tup aE (.cons (.int _) (.cons (.lst hsr (s2 _ _ har) (bh.ints (nI r))) .nil))
  have A3:=A2.Tx (s2 _ _ hkd) ZQ hv2
  have hkl:kvk.length < sizeLine:=by
   rw[hkt.len,hkj,au,ae,rA]
   have h1:=B.known
   have h2:=B.wb
   exact small _ (by omega)
  refine⟨_,rfl,sr,_,dxj,_,_,rfl,s2 _ _ hoj,T.bU,T.ff,rfl,_,rfl,d.kd,_,rfl,KD.t (s2 _ _ hkd) (s2 _ _ hqa) hkl,?_⟩
  have X7:=s2 _ _ hkd
  have L3:=Lj.Zj (x:=some (p,r)) ZQ (by rw[wQ];exact hwl)
  obtain⟨dx3,ho3⟩:=A3.obj
  obtain⟨kvw,hwd,hwt⟩:=A3.wait
  obtain⟨vw,hvw,rfl⟩:=hwt.get (w:=wt) (x:=(aw,l)) (by show look qj.wait wt=_;rw[wQ];exact hwl)
  have acn:=noD (o:=.dT (putK kvk (jK wt) (.ref p2))) X7 (s2 _ _ hqa) (by intro _ z;cases z)
  have he3:=noD (o:=.dT (putK kvk (jK wt) (.ref p2))) X7 (s2 _ _ hej) (by intro _ z;cases z)
  have hE3:TabAt (zA (nw S H) (upd (upd Hj p2 (.tup [.int p,.ref ar])) d.kd (.dT (putK kvk (jK wt) (.ref p2))))) kvs E:=hEj.imp fun v x z=>by
   obtain⟨a,ev,hs,ha⟩:=z
   exact⟨a,ev,hs,noD X7 (s2 _ _ ha) (by intro _ z;cases z)⟩
  have x3:Ext (eN d q) H (upd (upd Hj p2 (.tup [.int p,.ref ar])) d.kd (.dT (putK kvk (jK wt) (.ref p2)))):=(xj.trans (Ext.of_same s2)).trans (Ext.put (by simp[eN]))
  refine⟨_,rfl,sr,_,dx3,_,_,rfl,ho3,T.bU,T.dS,rfl,_,rfl,d.wd,.ref aw,rfl,by rw[← hvw];exact oO.t hwd acn,aw,rfl,⟨_,SqL.of (A3.LM (u:=wt) (by show look qj.wait wt=_;rw[wQ];exact hwl))⟩,?_⟩
  refine mI (K:=K) (a:=aw) (xs:=nV l) (fun m σ Hm=>(∃ y,σ=[some (.ref sr),some (.int p),some (.ref e),some (.ref qa),y])∧Hm e=some (.frz od (.dT kvs))∧TabAt (zA (nw S H) Hm) kvs E∧∃ qm,SAt t (nw S H) Hm sr d b qm∧LI qm (l.drop m)∧qm.known=qj.known++[(wt,some (p,r))]∧qm.bx=q.bx∧qm.wait=q.wait∧qm.ready.map (·.1)=q.ready.map (·.1)∧Ext (eN d q) H Hm)
   ⟨⟨_,rfl⟩,he3,hE3,_,A3,L3,rfl,hwj,wQ,hrj,x3⟩ (fun i σ H' _ h=>by obtain⟨_,_,_,qm,Am,_,_,_,hwm,_⟩:=h;exact SqL.of (Am.LM (u:=wt) (by rw[hwm];exact hwl))) ?_ ?_
  ·rintro m v σ Hm hm ⟨⟨y',rfl⟩,hem,hEm,qm,Am,Lm,hkm,hwm,Qx,hrm,xm⟩
   obtain⟨n,hn,rfl⟩:=ints_get (ns:=nI l) hm
   obtain⟨i,hi,rfl⟩:=cx hn
   have ZZ:l.drop m=i::l.drop (m+1):=by
    rw[cK (aP.mp hi).1]
    congr 1
    exact aa ((aK _).symm.trans hi)
   rw[ZZ] at Lm
   have hil:i < qm.bx.length:=Lm.KQ wt aw l (by rw[Qx];exact hwl) i (a7 hi)
   obtain⟨w',y1,c,hwy,hlc,h1,h0⟩:=Lm.dec hil
   obtain⟨dxm,hom⟩:=Am.obj
   have ZP:i < qm.dh.length:=(aP.mp hlc).1
   have A4:=Am.Q7 (qm.dh.set i c)
   obtain⟨dx4,ho4⟩:=A4.obj
   have ml:d.ll∈cS d q:=Il
   have mm:cS d qm=cS d q:=GL Qx hrm
   have mx:∀ a∈cS d q,a∈eN d q:=fun a ha=>aO _ ha
   have x4:Ext [d.ll] Hm (upd Hm d.ll (.lst (nV (qm.dh.set i c)))):=Ext.put (by simp)
   have n4:∀ a∈[d.ll],¬ nw S H a:=fun a ha=>by rw[ag.mp ha];exact Ml _ ml
   have hE4:TabAt (zA (nw S H) (upd Hm d.ll (.lst (nV (qm.dh.set i c))))) kvs E:=hEm.imp fun v x z=>z.ext x4 n4
   have he4:upd Hm d.ll (.lst (nV (qm.dh.set i c))) e=some (.frz od (.dT kvs)):=by rw[aN (cu hem Am.dh (by intro z;cases z))];exact hem
   have x4':Ext (eN d q) H (upd Hm d.ll (.lst (nV (qm.dh.set i c)))):=xm.trans (Ext.put (mx _ ml))
   refine⟨_,rfl,sr,_,dxm,_,_,rfl,hom,T.bU,T.jy,rfl,_,rfl,d.ll,_,_,_,rfl,rfl,SqL.of Am.dh,aF (MJ hlc),_,_,rfl,rfl,?_⟩
   refine⟨_,rfl,sr,_,dxm,_,_,rfl,hom,T.bU,T.jy,rfl,_,rfl,d.ll,nV qm.dh,_,i,rfl,rfl,Am.dh,V3 (by rw[ra];exact ZP),?_⟩
   have ev:V.int (((c+1:Nat):Int) - 1)=V.int (c:Int):=by
    congr 1
    omega
   dsimp only
   rw[ev,XF]
   refine⟨_,rfl,sr,_,dx4,_,_,rfl,ho4,T.bU,T.jy,rfl,_,rfl,d.ll,_,_,_,rfl,rfl,SqL.of A4.dh,aF (MJ (b5 ZP)),rfl,_,rfl,?_⟩
   by_cases hc:c=0
   ·refine nz (by rw[hc];rfl) ?_
    obtain⟨hs,hL⟩:=h0 hc
    refine⟨_,rfl,sr,dx4,_,rfl,ho4,rfl,_,rfl,nw S H,sr,d,b,{ qm with dh:=qm.dh.set i c },i,w',y1,rfl,A4,hwy,hs,fun x hx=>?_,fun H5 A5 x5=>?_⟩
    ·have h1:=El Lm hx
     have h2:=B.wb
     rw[hwm] at h1
     omega
    ·obtain⟨r1,r2,r3,r4,r5⟩:=Q2 { qm with dh:=qm.dh.set i c } i y1
     have x5:Ext (cS d q) (upd Hm d.ll (.lst (nV (qm.dh.set i c)))) H5:=by rw[← mm];exact x5
     refine⟨⟨_,rfl⟩,?_,hE4.imp fun v x z=>z.ext x5 Ml,_,A5,hL Am.Bh,r1.trans hkm,r2.trans hwm,r4.trans Qx,r5.trans hrm,x4'.trans (x5.mono mx)⟩
     refine x5 _ _ he4 fun hm'=>?_
     obtain⟨xs,hxs⟩:=A.there e hm'
     rw[hne] at hxs
     cases hxs
   ·refine c5 (by omega) ?_
    exact⟨⟨_,rfl⟩,he4,hE4,_,A4,h1 hc,hkm,hwm,Qx,hrm,x4'⟩
  ·rintro σ Hm ⟨⟨y',rfl⟩,hem,hEm,qm,Am,Lm,hkm,hwm,Qx,hrm,xm⟩
   rw[ra,List.drop_length] at Lm
   refine⟨⟨_,_,rfl⟩,hem,hEm,qm,Am,Lm,?_,hwm,Qx,hrm,xm⟩
   rw[hkm,hkj,cV hEw,aJ,bK]
   rfl
 ·rintro σ Hj ⟨⟨x,y,rfl⟩,hej,hEj,qj,Aj,Lj,hkj,hwj,wQ,hrj,xj⟩
  refine⟨hej,?_⟩
  rw[hlk,cz] at hkj
  have hkE:∀ w∈E.map (·.1),look q.known w=none∧inB b w:=fun w hw=>by
   obtain⟨r,hr⟩:=vn hw
   obtain⟨h1,i,_,y,h2,_⟩:=hok.of w r hr
   exact⟨h1,(J.own i w y h2).2.1⟩
  have aah:qj.known.map (·.1)=q.known.map (·.1)++E.map (·.1):=by
   rw[hkj,aJ,bt]
   rfl
  refine k _ qj (Aj.WZ hej trivial nek new) Lj (J.settle L hp hrp hok hkj hwj wQ) ⟨?_,?_,?_,?_,B.b16⟩ hwj wQ hrj ?_
  ·rw[aah]
   exact ly.mpr ⟨B.kn,hok.nd,fun a ha c hc z=>vo (hkE c hc).1 (z▸ha)⟩
  ·rw[aah]
   intro w hw
   rcases az.mp hw with hw | hw
   ·exact B.ki w hw
   ·exact(hkE w hw).2
  ·rw[wQ];exact B.wi
  ·rw[hwj];exact B.wb
  ·intro c o hc hm
   rw[aN (bf hc hne)]
   exact xj c o hc hm
end
end U
namespace U
open PySem PySem.Spec PyProof.Rows L2
open PySem.W (Codec)
open Ways KpFix
section
variable {P:Program}{w:World}{K:ai}{mg:Str→Option Value}{base:Heap}{t:Adr}
structure KOk (b:ax) (ks:Known):Prop where
 nd:(ks.map (·.1)).Nodup
 ki:∀ w∈ks.map (·.1),inB b w
 eq:∀ w x,look ks w=some x→x=KS b w
def yp (t:Adr):Sp:=fun vs H Q _=>Ex5 fun(S:Addr→Prop) (sr:Addr) (d:Ad) (b:ax) (q:SS)=>vs=[.ref sr]∧SAt t S H sr d b q∧LI q []∧JI b q 1∧SB b q∧cM b=true∧(∀ x∈b,Ku x)∧
 (∀ w,look q.wait w≠none→inB b w∧∀ y∈eB b w,∃ i:Nat,q.bx[i]?=some (w,y))∧
 ∀ H' kvs ks,H' d.kd=some (.dT kvs)→TabAt (fun v x=>Dv (nw S H) H' v (knD x)) kvs ks→KOk b ks→(∀ w,look q.wait w≠none→look ks w≠none)→Ext (eN d q) H H'→Q .non H'
theorem VW {d:Ad}{q q':SS} (h1:q'.wait=q.wait) (h2:q'.ready.map (·.1)=q.ready.map (·.1)):eN d q'=eN d q:=by
 unfold eN
 rw[GL h1 h2]
theorem SAt.PU {S:Addr→Prop}{H:Hp}{sr:Addr}{d:Ad}{b:ax}{q:SS} (A:SAt t S H sr d b q):∀ a∈eN d q,H a≠none:=by
 intro a ha
 unfold eN at ha
 rcases az.mp ha with ha | ha
 ·simp only[aC,bN,or_false] at ha
  rcases ha with rfl | rfl
  ·obtain⟨_,h,_⟩:=A.known;rw[h];exact fun z=>nomatch z
  ·obtain⟨_,h,_⟩:=A.wait;rw[h];exact fun z=>nomatch z
 ·obtain⟨xs,h⟩:=A.there a ha
  rw[h]
  exact fun z=>nomatch z
theorem yM (T:Txt K mg t):cI P w K mg base CX0 4 t.ee t.fP ["self"] (yp t):=by
 refine T.fZ.ok kY (fun vs H Q E h=>by obtain⟨_,_,_,_,_,e,_⟩:=h;subst e;rfl) (fun cdv A outer s H vs Q E hr h=>?_)
 obtain⟨S,sr,d,b,q,rfl,A,L,J,B,hcl,hne,iX,k⟩:=h
 have hu:=AF hr
 refine⟨_,(ak (iW PassesOwn.never rfl (K9 rfl T.zm (ah aH (ah (i4 pF (bz rfl T.sg T.sd) aH) aq))) (cg (i:=1) kY.nd rfl (ba rfl)) (aA (cw (cn (pv 0) T.bU T.Gv (Ey T) (hr.mono (by decide)) T.GD .nil bw (ah (pv 1) aq)))))
  (aA (Q9 (iW PassesOwn.never rfl (Rc (bI (pv 0) rfl)) (cg (i:=2) kY.nd rfl (ba rfl)) (aA (b9 (Ew (vc hu (pv 2) (bI (pv 0) rfl))) (aA (CG hu (bI (pv 0) rfl) (pv 2) yF rfl)) bp)))))),?_⟩
 have A1:=A.nw (bg.refl H)
 have Ml:∀ a∈cS d q,¬ nw S H a:=A1.ns
 refine⟨_,_,rfl,rfl,1,200+1,rfl,⟨by decide,by decide,by decide,by decide⟩,?_⟩
 refine ET (lo:=1) (n:=((200+1:Int) - 1).toNat) (fun j σ Hj=>(∃ x y,σ=[some (.ref sr),x,y])∧∃ qj,SAt t (nw S H) Hj sr d b qj∧LI qj []∧JI b qj (1+j)∧SB b qj∧qj.bx=q.bx∧qj.wait=q.wait∧qj.ready.map (·.1)=q.ready.map (·.1)∧Ext (eN d q) H Hj)
  ⟨⟨_,_,rfl⟩,q,A1,L,J,B,rfl,rfl,rfl,Ext.refl _ _⟩ ?_ ?_
 ·rintro j σ Hj hj ⟨⟨x,y,rfl⟩,qj,Aj,Lj,Jj,Bj,hwj,wQ,hrj,xj⟩
  have hj:j < 200:=hj
  obtain⟨dx,ho⟩:=Aj.obj
  have ej:(1:Int)+(j:Nat)=((1+j:Nat):Int):=by omega
  rw[ej]
  refine⟨_,rfl,sr,dx,_,rfl,ho,rfl,_,rfl,nw S H,sr,d,b,qj,1+j,rfl,by omega,Aj,Lj,Jj,Bj,fun H2 q2 A2 L2 J2 B2 hw2 Zy hr2 x2=>?_⟩
  have mA:eN d qj=eN d q:=VW wQ hrj
  have mL:cS d q2=cS d q:=GL (Zy.trans wQ) (hr2.trans hrj)
  refine⟨⟨_,_,rfl⟩,q2,A2.wide (CM (xj.none ?_)) (by rw[mL];exact Ml),L2,J2,B2,hw2.trans hwj,Zy.trans wQ,hr2.trans hrj,xj.trans (by rw[← mA];exact x2)⟩
  rw[← mA]
  exact Aj.PU
 ·rintro σ Hj ⟨⟨x,y,rfl⟩,qj,Aj,Lj,Jj,Bj,hwj,wQ,hrj,xj⟩
  have Jj:JI b qj 201:=Jj
  have hK:=Jj.done hcl hne Lj (fun w hw=>by rw[wQ] at hw;rw[hwj];exact iX w hw)
  obtain⟨dx,ho⟩:=Aj.obj
  obtain⟨kvw,hwd,hwt⟩:=Aj.wait
  obtain⟨kvk,hkd,hkt⟩:=Aj.known
  have nkw:d.kd≠d.wd:=Aj.kw
  refine⟨d.wd,.dT kvw,hwd,trivial,fun od=>?_⟩
  have hlw:kvw.length=qj.wait.length:=hwt.len
  have hwl:qj.wait.length≤272:=by
   have:=sY (SO b.length) (qj.wait.map (·.1)) Aj.wk fun w hw=>Im (Bj.wi w hw)
   rw[ae] at this
   have:=Je Bj.b16
   omega
  have mkd:d.kd∈eN d q:=by simp[eN]
  have mwd:d.wd∈eN d q:=by simp[eN]
  have ho1:=noD (o:=.frz od (.dT kvw)) hwd ho (by intro _ z;cases z)
  refine⟨_,rfl,sr,_,dx,_,_,rfl,ho1,T.bU,T.dS,rfl,d.wd,od,rfl,.inr ⟨kvw,aE,?_⟩⟩
  refine Lw (fun j σ Hi=>(∃ x y,σ=[some (.ref sr),x,y])∧Hi d.wd=some (.frz od (.dT kvw))∧Hi sr=some (.ins t.bM dx (sf d))∧(∃ kvs ks,Hi d.kd=some (.dT kvs)∧TabAt (fun v x=>Dv (nw S H) Hi v (knD x)) kvs ks∧ks.length≤qj.known.length+j∧(ks.map (·.1)).Nodup∧(∀ w∈ks.map (·.1),inB b w)∧
   ∀ u,look ks u=match look qj.known u with | some x=>some x | none=>if u∈(qj.wait.take j).map (·.1) then some none else none)∧Ext (eN d q) H Hi)
   ⟨⟨_,_,rfl⟩,aE,ho1,⟨kvk,qj.known,by rw[aN nkw];exact hkd,hkt.imp fun v x z=>BI hwd z,by omega,Bj.kn,Bj.ki,fun u=>by cases look qj.known u<;>simp⟩,xj.trans (Ext.put mwd)⟩ (fun i σ H' _ h=>h.2.1) ?_ ?_
  ·rintro j ky v qa σ Hi hj hqa ⟨⟨x,y,rfl⟩,hwi,hoi,⟨kvs,ks,hki,hti,hlen,hnd,hin,Fq⟩,xi⟩
   obtain⟨wt,xw,hwE,rfl,rfl⟩:=hwt.nth hj
   have hjl:j < qj.wait.length:=(aP.mp hwE).1
   have hsn:(qj.wait.take (j+1)).map (·.1)=(qj.wait.take j).map (·.1)++[wt]:=by rw[cV hwE,aJ];rfl
   refine⟨_,rfl,_,rfl,sr,_,dx,_,_,rfl,hoi,T.bU,T.ff,rfl,d.kd,_,rfl,oO.t hki hqa,_,rfl,?_⟩
   rw[hti.has wt]
   cases hk:look ks wt with
   | some xk=>
     refine z0 ⟨⟨_,_,rfl⟩,hwi,hoi,⟨kvs,ks,hki,hti,by omega,hnd,hin,fun u=>?_⟩,xi⟩
     rw[Fq,hsn]
     cases hku:look qj.known u with
     | some _=>rfl
     | none=>
       dsimp only
       by_cases hm:u∈(qj.wait.take j).map (·.1)
       ·rw[if_pos hm,if_pos (aQ _ hm)]
       ·rw[if_neg hm,if_neg fun z=>?_]
        rcases az.mp z with z | z
        ·exact hm z
        ·have e:=ag.mp z
         subst e
         rw[Fq,hku] at hk
         dsimp only at hk
         rw[if_neg hm] at hk
         cases hk
   | none=>
     refine uL ?_
     have acB:look qj.known wt=none:=by
      cases e:look qj.known wt with
      | none=>rfl
      | some x=>rw[Fq,e] at hk;cases hk
     refine⟨_,rfl,sr,_,dx,_,_,rfl,hoi,T.bU,T.ff,rfl,_,rfl,d.kd,_,rfl,KD.t hki hqa ?_,⟨_,_,rfl⟩,?_,noD hki hoi (by intro _ z;cases z),⟨_,ks++[(wt,none)],aE,(hti.imp fun v x z=>BI hki z).snoc hk .non,?_,?_,?_,fun u=>?_⟩,xi.trans (Ext.put mkd)⟩
     ·rw[hti.len]
      have:=Bj.known
      exact small _ (by omega)
     ·rw[aN (br nkw)];exact hwi
     ·rw[au,bD];omega
     ·rw[aJ];exact ua hnd (vo hk)
     ·intro w hw
      rw[aJ] at hw
      rcases az.mp hw with hw | hw
      ·exact hin w hw
      ·rw[ag.mp hw]
       exact Bj.wi wt (ay.mpr ⟨_,a7 hwE,rfl⟩)
     ·rw[kh ks wt none u hk,Fq,hsn]
      by_cases e:u=wt
      ·subst e
       rw[if_pos rfl,acB]
       dsimp only
       rw[if_pos (aO _ (ag.mpr rfl))]
      ·rw[if_neg e]
       cases look qj.known u with
       | some _=>rfl
       | none=>
         dsimp only
         by_cases hm:u∈(qj.wait.take j).map (·.1)
         ·rw[if_pos hm,if_pos (aQ _ hm)]
         ·rw[if_neg hm,if_neg fun z=>?_]
          rcases az.mp z with z | z
          ·exact hm z
          ·exact e (ag.mp z)
  ·rintro σ Hi ⟨⟨x,y,rfl⟩,hwi,hoi,⟨kvs,ks,hki,hti,hlen,hnd,hin,Fq⟩,xi⟩
   refine⟨hwi,?_⟩
   rw[hlw,cz] at Fq
   have dvF:∀ {v:V}{x:D},Dv (nw S H) Hi v x→Dv (nw S H) (upd Hi d.wd (.dT kvw)) v x:=fun z=>yV (fun a xs ha=>by rw[aN (cu ha hwi (by intro z;cases z))];exact ha) (fun a xs _ ha=>by rw[aN (cu ha hwi (by intro z;cases z))];exact ha) _ _ z
   refine k _ kvs ks (by rw[aN nkw];exact hki) (hti.imp fun v x z=>dvF z) ⟨hnd,hin,fun w x h=>?_⟩ (fun w hw=>?_) (xi.trans (Ext.put mwd))
   ·rw[Fq] at h
    cases hkw:look qj.known w with
    | some x'=>
      rw[hkw] at h
      obtain rfl:=aa h
      cases hww:look qj.wait w with
      | none=>exact Jj.old w _ hkw hww
      | some u=>rw[← hK w (by rw[hww];exact fun z=>nomatch z),W0 hkw]
    | none=>
      rw[hkw] at h
      dsimp only at h
      by_cases hm:w∈qj.wait.map (·.1)
      ·rw[if_pos hm] at h
       obtain rfl:=aa h
       obtain⟨u,hu⟩:=vn hm
       rw[← hK w (by rw[hu];exact fun z=>nomatch z)]
       unfold Kf
       rw[hkw]
       rfl
      ·rw[if_neg hm] at h;cases h
   ·rw[Fq]
    cases look qj.known w with
    | some x=>exact fun z=>nomatch z
    | none=>
      dsimp only
      rw[if_pos]
      ·exact fun z=>nomatch z
      ·rw[wQ]
       cases e:look q.wait w with
       | none=>exact absurd e hw
       | some u=>exact C4 e
end
end U
namespace U
open PySem PySem.Spec PyProof.Rows L2
open PySem.W (Codec)
open Ways KpFix
theorem Xp {q:SS}{i:Nat}{w:a3}{y:Way} (hwy:q.bx[i]?=some (w,y)) (Yj:q.ready.length=201)
 (rin:∀ (j:Nat) (w':a3) (y':Way) (z:Nat×bc),j≠i→q.bx[j]?=some (w',y')→raw (Kf q.known) y'=some z→z.1≤200→∃ a r,q.ready[z.1]?=some (a,r)∧j∈r)
 (rof:∀ (n:Nat) (a:Addr) (r:List Nat),q.ready[n]?=some (a,r)→r.Nodup∧∀ j∈r,j≠i∧∃ w y row,q.bx[j]?=some (w,y)∧raw (Kf q.known) y=some (n,row)):
 (∀ (j:Nat) (w':a3) (y':Way) (z:Nat×bc),q.bx[j]?=some (w',y')→raw (Kf q.known) y'=some z→z.1≤200→∃ a r,(rdy q i y).ready[z.1]?=some (a,r)∧j∈r)∧
 (∀ (n:Nat) (a:Addr) (r:List Nat),(rdy q i y).ready[n]?=some (a,r)→r.Nodup∧∀ j∈r,∃ w y row,q.bx[j]?=some (w,y)∧raw (Kf q.known) y=some (n,row)):=by
 have me:∀ w' y',q.bx[i]?=some (w',y')→y'=y:=fun w' y' h=>by
  rw[hwy] at h
  exact(aV (aa h)).2.symm
 unfold rdy
 cases hr:raw (Kf q.known) y with
 | none=>
   refine⟨fun j w' y' z hj h hz=>?_,fun n a r h=>⟨(rof n a r h).1,fun j hj=>((rof n a r h).2 j hj).2⟩⟩
   by_cases e:j=i
   ·subst e
    rw[me w' y' hj,hr] at h
    cases h
   ·exact rin j w' y' z e hj h hz
 | some z=>
   dsimp only
   by_cases hz:z.1≤200
   ·rw[if_pos hz]
    obtain⟨⟨a,r⟩,hrd⟩:∃ x,q.ready[z.1]?=some x:=⟨_,aK (by omega)⟩
    rw[hrd]
    dsimp only
    have hzl:z.1 < q.ready.length:=by omega
    refine⟨fun j w' y' z' hj h hz'=>?_,fun n a' r' h=>?_⟩
    ·by_cases e:j=i
     ·subst e
      rw[me w' y' hj,hr] at h
      obtain rfl:=aa h
      exact⟨a,r++[j],b5 hzl,aO _ (ag.mpr rfl)⟩
     ·obtain⟨a',r',g1,g2⟩:=rin j w' y' z' e hj h hz'
      by_cases ez:z'.1=z.1
      ·rw[ez,hrd] at g1
       obtain⟨rfl,rfl⟩:=aV (aa g1)
       exact⟨a,r++[i],by rw[ez];exact b5 hzl,aQ _ g2⟩
      ·exact⟨a',r',by rw[dj (br ez)];exact g1,g2⟩
    ·by_cases en:n=z.1
     ·subst en
      rw[b5 hzl] at h
      obtain⟨rfl,rfl⟩:=aV (aa h)
      obtain⟨nd,hof⟩:=rof _ _ _ hrd
      refine⟨ua nd fun hm=>(hof i hm).1 rfl,fun j hj=>?_⟩
      rcases az.mp hj with hj | hj
      ·exact(hof j hj).2
      ·obtain rfl:=ag.mp hj
       exact⟨w,y,z.2,hwy,hr⟩
     ·rw[dj (br en)] at h
      exact⟨(rof n a' r' h).1,fun j hj=>((rof n a' r' h).2 j hj).2⟩
   ·rw[if_neg hz]
    refine⟨fun j w' y' z' hj h hz'=>?_,fun n a r h=>⟨(rof n a r h).1,fun j hj=>((rof n a r h).2 j hj).2⟩⟩
    by_cases e:j=i
    ·subst e
     rw[me w' y' hj,hr] at h
     obtain rfl:=aa h
     exact absurd hz' hz
    ·exact rin j w' y' z' e hj h hz'
theorem r8 (l:List (a3×Addr×List Nat)) (w:a3) (i:Nat) (u:a3):look (l.map (dY w i)) u=if u=w then (look l w).map (fun x=>(x.1,x.2++[i])) else look l u:=by
 induction l with
 | nil=>
   show none=_
   split<;>rfl
 | cons x l ih=>
   rw[aU,dP,dP,dP,ih,qE]
   unfold dY
   by_cases h1:x.1=w
   ·rw[if_pos h1,if_pos h1]
    by_cases h2:u=w
    ·rw[if_pos (h1.trans h2.symm),if_pos h2];rfl
    ·rw[if_neg (fun z=>h2 (z.symm.trans h1)),if_neg h2,if_neg h2,if_neg (fun z=>h2 (z.symm.trans h1))]
   ·rw[if_neg h1,if_neg h1]
    by_cases h2:u=w
    ·rw[if_pos h2,if_pos h2,if_neg (fun z=>h1 (z.trans h2))]
    ·rw[if_neg h2,if_neg h2]
def iC (ks:Known) (y:Way):List a3:=(y.steps.map (·.2)).filter fun u=>(look ks u).isNone
theorem Li (ks:Known) (y:Way):(iC ks y).length=cnt ks y:=by
 unfold iC cnt
 rw[← List.countP_eq_length_filter,List.countP_map]
 rfl
theorem Fo {ks:Known}{y:Way}{u:a3} (h:look ks u=none):(iC ks y).count u=y.steps.countP fun s=>decide (s.2=u):=by
 unfold iC List.count
 rw[List.countP_filter,List.countP_map]
 refine List.countP_congr fun s _=>?_
 show((s.2 == u) && (look ks s.2).isNone)=true↔decide (s.2=u)=true
 by_cases e:s.2=u
 ·rw[e,h];simp
 ·simp[e]
theorem EL {ks:Known}{y:Way}{u:a3}:u∈iC ks y↔look ks u=none∧∃ s∈y.steps,s.2=u:=by
 unfold iC
 rw[eL,ay]
 constructor
 ·rintro⟨⟨s,hs,e⟩,h⟩
  exact⟨by simpa using h,s,hs,e⟩
 ·rintro⟨h,s,hs,e⟩
  exact⟨⟨s,hs,e⟩,by rw[h];rfl⟩
structure y3 (q:SS) (n:Nat) (us:List a3) (wt:List (a3×Addr×List Nat)) (fr:List a3):Prop where
 keys:wt.map (·.1)=q.wait.map (·.1)++fr
 old:∀ u a l,look q.wait u=some (a,l)→look wt u=some (a,l++aj (us.count u) n)
 new:∀ u a l,look wt u=some (a,l)→look q.wait u=none→l=aj (us.count u) n
 all:∀ u∈us,look wt u≠none
 sub:∀ u∈fr,u∈us
theorem gy {α:Type}{l:List (a3×α)}{u:a3}:look l u≠none↔u∈l.map (·.1):=⟨fun h=>by
 cases e:look l u with
 | none=>exact absurd e h
 | some x=>exact C4 e,fun h e=>vo e h⟩
theorem LI.add {q q':SS}{w:a3}{y:Way}{fr:List a3} (L:LI q []) (hw:look q.wait w≠none) (Yj:q.ready.length=201) (hk:q'.known=q.known) (hys:q'.bx=q.bx++[(w,y)]) (hl:q'.dh=q.dh++[(iC q.known y).length])
 (G:y3 q q.bx.length (iC q.known y) q'.wait fr) (hr:q'.ready=if iC q.known y=[] then (rdy { q' with ready:=q.ready } q.bx.length y).ready else q.ready):LI q' []:=by
 have at_:∀ (i:Nat) w' y',q'.bx[i]?=some (w',y')→(i < q.bx.length∧q.bx[i]?=some (w',y'))∨(i=q.bx.length∧w'=w∧y'=y):=fun i w' y' h=>by
  rw[hys] at h
  rcases Nat.lt_trichotomy i q.bx.length with g | g | g
  ·rw[dB g] at h
   exact .inl ⟨g,h⟩
  ·subst g
   rw[cB (aB _),mZ] at h
   have:=aa h
   exact .inr ⟨rfl,(aV this).1.symm,(aV this).2.symm⟩
  ·rw[qN (by rw[au,bD];omega)] at h
   cases h
 have TU:q'.bx[q.bx.length]?=some (w,y):=by
  rw[hys,cB (aB _),mZ]
  rfl
 have Za:∀ (i:Nat) x,q.bx[i]?=some x→q'.bx[i]?=some x:=fun i x h=>by
  rw[hys,dB (aP.mp h).1]
  exact h
 have more:∀ u,look q.wait u≠none→look q'.wait u≠none:=fun u h=>by
  rw[gy,G.keys]
  exact aQ _ (gy.mp h)
 have some_of:∀ {u:a3},look q'.wait u≠none→∃ x,look q'.wait u=some x:=fun {u} h=>by
  cases e:look q'.wait u with
  | none=>exact absurd e h
  | some x=>exact⟨x,rfl⟩
 have Xn:∀ (n:Nat) (a:Addr) (r:List Nat),q.ready[n]?=some (a,r)→r.Nodup∧∀ j∈r,j≠q.bx.length∧∃ w y row,q'.bx[j]?=some (w,y)∧raw (Kf q'.known) y=some (n,row):=fun n a r h=>by
  refine⟨(L.rof n a r h).1,fun j hj=>?_⟩
  obtain⟨w',y',row,h1,_,h3⟩:=(L.rof n a r h).2 j hj
  exact⟨bV (aP.mp h1).1,w',y',row,Za j _ h1,by rw[hk];exact h3⟩
 have Y3:∀ (j:Nat) (w':a3) (y':Way) (z:Nat×bc),j≠q.bx.length→q'.bx[j]?=some (w',y')→raw (Kf q'.known) y'=some z→z.1≤200→∃ a r,q.ready[z.1]?=some (a,r)∧j∈r:=fun j w' y' z hne hj h hz=>by
  rcases at_ j w' y' hj with ⟨_,g⟩ | ⟨g,_⟩
  ·exact L.rin j w' y' z g rfl (by rw[← hk];exact h) hz
  ·exact absurd g hne
 have fin:(∀ (j:Nat) (w':a3) (y':Way) (z:Nat×bc),q'.bx[j]?=some (w',y')→raw (Kf q'.known) y'=some z→z.1≤200→∃ a r,q'.ready[z.1]?=some (a,r)∧j∈r)∧
  (∀ (n:Nat) (a:Addr) (r:List Nat),q'.ready[n]?=some (a,r)→r.Nodup∧∀ j∈r,∃ w y row,q'.bx[j]?=some (w,y)∧raw (Kf q'.known) y=some (n,row)):=by
  by_cases he:iC q.known y=[]
  ·rw[if_pos he] at hr
   have:=Xp (q:={ q' with ready:=q.ready }) TU Yj Y3 Xn
   rw[hr]
   exact this
  ·rw[if_neg he] at hr
   rw[hr]
   refine⟨fun j w' y' z hj h hz=>?_,fun n a r h=>⟨(Xn n a r h).1,fun j hj=>((Xn n a r h).2 j hj).2⟩⟩
   by_cases e:j=q.bx.length
   ·rcases at_ j w' y' hj with ⟨g,_⟩ | ⟨_,rfl,rfl⟩
    ·omega
    ·have h0:=Q5 h
     rw[hk,← Li] at h0
     exact absurd (oV.mp h0) he
   ·exact Y3 j w' y' z e hj h hz
 refine⟨by rw[hl,hys,au,au,L.len];rfl,fun i w' y' hi=>?_,fun u a l hu hlk i w' y' hi=>?_,fun u a l hlk i hi=>?_,fun i w' y' hi s hs hn=>?_,fun i w' y' hi=>?_,fun i w' y' z hi _ h hz=>fin.1 i w' y' z hi h hz,fun n a r h=>⟨(fin.2 n a r h).1,fun j hj=>?_⟩⟩
 ·rw[hl,hk]
  show _=some (cnt q.known y'+0)
  rcases at_ i w' y' hi with ⟨g1,g2⟩ | ⟨rfl,rfl,rfl⟩
  ·rw[dB (by rw[L.len];exact g1),L.dh i w' y' g2]
   rfl
  ·rw[cB (by rw[L.len];exact aB _),L.len,mZ,← Li]
   rfl
 ·rw[hk] at hu
  cases hq:look q.wait u with
  | some x=>
    obtain⟨a0,l0⟩:=x
    have e:=G.old u a0 l0 hq
    rw[hlk] at e
    obtain⟨rfl,rfl⟩:=aV (aa e)
    rw[pT,List.count_replicate]
    rcases at_ i w' y' hi with ⟨g1,g2⟩ | ⟨rfl,rfl,rfl⟩
    ·rw[L.wait u a l0 hu hq i w' y' g2,if_neg (by simp;omega),m7]
    ·have h0:l0.count q.bx.length=0:=kI.mpr fun hm=>by
      have:=L.KQ u a l0 hq _ hm
      omega
     rw[h0,fD,if_pos (by simp),Fo hu]
  | none=>
    have e:=G.new u a l hlk hq
    subst e
    rw[List.count_replicate]
    rcases at_ i w' y' hi with ⟨g1,g2⟩ | ⟨rfl,rfl,rfl⟩
    ·rw[if_neg (by simp;omega)]
     symm
     rw[nA]
     intro s hs hd
     have hd:s.2=u:=of_decide_eq_true hd
     obtain⟨x,hx⟩:=L.dep i w' y' g2 s hs (by rw[hd];exact hu)
     rw[hd,hq] at hx
     cases hx
    ·rw[if_pos (by simp),Fo hu]
 ·rw[hys,au,bD]
  cases hq:look q.wait u with
  | some x=>
    obtain⟨a0,l0⟩:=x
    have e:=G.old u a0 l0 hq
    rw[hlk] at e
    obtain⟨rfl,rfl⟩:=aV (aa e)
    rcases az.mp hi with hi | hi
    ·have:=L.KQ u a l0 hq i hi
     omega
    ·have:=(oR.mp hi).2
     omega
  | none=>
    have e:=G.new u a l hlk hq
    subst e
    have:=(oR.mp hi).2
    omega
 ·rw[hk] at hn
  rcases at_ i w' y' hi with ⟨g1,g2⟩ | ⟨rfl,rfl,rfl⟩
  ·obtain⟨x,hx⟩:=L.dep i w' y' g2 s hs hn
   exact some_of (more _ (by rw[hx];exact fun z=>nomatch z))
  ·exact some_of (G.all _ (EL.mpr ⟨hn,s,hs,rfl⟩))
 ·rcases at_ i w' y' hi with ⟨g1,g2⟩ | ⟨rfl,rfl,rfl⟩
  ·obtain⟨x,hx⟩:=L.key i w' y' g2
   exact some_of (more _ (by rw[hx];exact fun z=>nomatch z))
  ·exact some_of (more _ hw)
 ·obtain⟨w',y',row,h1,h2⟩:=(fin.2 n a r h).2 j hj
  exact⟨w',y',row,h1,rfl,h2⟩
end U
namespace U
open PySem PySem.Spec PyProof.Rows L2
open PySem.W (Codec)
open Ways KpFix
theorem Qv {ks:Known}{y:Way}:((y.steps.map fun s=>if (look ks s.2).isNone then some (e9 s.2) else none).filterMap id)=(iC ks y).map e9:=by
 unfold iC
 induction y.steps with
 | nil=>rfl
 | cons s l ih=>
   rw[aU,cF,aU,ya]
   cases h:(look ks s.2).isNone with
   | true=>simp only[if_true,id,aU];rw[ih]
   | false=>simpa using ih
theorem y3.start (q:SS) (n:Nat):y3 q n [] q.wait [] where
 keys:=by rw[cq]
 old:=fun u a l h=>by simpa using h
 new:=fun u a l h h'=>by rw[h] at h';cases h'
 all:=fun u h=>by cases h
 sub:=fun u h=>by cases h
theorem NZ {α:Type} (n:Nat) (x:α):aj n x++[x]=aj (n+1) x:=by
 rw[List.replicate_succ']
theorem y3.step {q:SS}{n:Nat}{us:List a3}{wt:List (a3×Addr×List Nat)}{fr:List a3} (G:y3 q n us wt fr) {v:a3} (h:look wt v≠none):y3 q n (us++[v]) (wt.map (dY v n)) fr where
 keys:=by
  rw[bt,show wt.map ((·.1)∘dY v n)=wt.map (·.1) from bF fun x _=>qE v n x]
  exact G.keys
 old:=fun u a l hu=>by
  rw[r8,pT]
  by_cases e:u=v
  ·subst e
   rw[if_pos rfl,G.old u a l hu]
   show some (a,(l++aj (us.count u) n)++[n])=_
   rw[bK,NZ]
   simp
  ·rw[if_neg e,G.old u a l hu]
   have:[v].count u=0:=kI.mpr fun z=>e (ag.mp z)
   rw[this,m7]
 new:=fun u a l hu hn=>by
  rw[r8] at hu
  rw[pT]
  by_cases e:u=v
  ·subst e
   rw[if_pos rfl] at hu
   obtain⟨x,hx,he⟩:=cY.mp hu
   obtain⟨rfl,rfl⟩:=aV he
   have:=G.new u x.1 x.2 hx hn
   rw[this,NZ]
   simp
  ·rw[if_neg e] at hu
   have:[v].count u=0:=kI.mpr fun z=>e (ag.mp z)
   rw[this,m7]
   exact G.new u a l hu hn
 all:=fun u hu=>by
  rw[r8]
  by_cases e:u=v
  ·subst e
   rw[if_pos rfl]
   cases hx:look wt u with
   | none=>exact absurd hx h
   | some x=>exact fun z=>nomatch z
  ·rw[if_neg e]
   rcases az.mp hu with hu | hu
   ·exact G.all u hu
   ·exact absurd (ag.mp hu) e
 sub:=fun u hu=>aQ _ (G.sub u hu)
theorem y3.both {q:SS}{n:Nat}{us:List a3}{wt:List (a3×Addr×List Nat)}{fr:List a3} (G:y3 q n us wt fr) {v:a3} (h:look wt v=none) (a:Addr):y3 q n (us++[v]) ((wt++[(v,a,[])]).map (dY v n)) (fr++[v]):=by
 have hq:look q.wait v=none:=by
  cases e:look q.wait v with
  | none=>rfl
  | some x=>rw[G.old v x.1 x.2 e] at h;cases h
 have hus:us.count v=0:=kI.mpr fun hm=>G.all v hm h
 have lk:∀ u,look ((wt++[(v,a,[])]).map (dY v n)) u=if u=v then some (a,[n]) else look wt u:=fun u=>by
  rw[r8,kh wt v (a,[]) v h,kh wt v (a,[]) u h,if_pos rfl]
  by_cases e:u=v
  ·rw[if_pos e,if_pos e];rfl
  ·rw[if_neg e,if_neg e,if_neg e]
 refine⟨?_,fun u a' l hu=>?_,fun u a' l hu hn=>?_,fun u hu=>?_,fun u hu=>?_⟩
 ·have e:∀ l:List (a3×Addr×List Nat),(l.map (dY v n)).map (·.1)=l.map (·.1):=fun l=>by
   rw[bt]
   exact bF fun x _=>qE v n x
  rw[e,aJ,G.keys,bK]
  rfl
 ·have e:u≠v:=fun z=>by rw[z,hq] at hu;cases hu
  rw[lk,if_neg e,pT,G.old u a' l hu]
  have:[v].count u=0:=kI.mpr fun z=>e (ag.mp z)
  rw[this,m7]
 ·rw[lk] at hu
  rw[pT]
  by_cases e:u=v
  ·subst e
   rw[if_pos rfl] at hu
   obtain⟨_,rfl⟩:=aV (aa hu)
   rw[hus]
   simp
  ·rw[if_neg e] at hu
   have:[v].count u=0:=kI.mpr fun z=>e (ag.mp z)
   rw[this,m7]
   exact G.new u a' l hu hn
 ·rw[lk]
  by_cases e:u=v
  ·rw[if_pos e];exact fun z=>nomatch z
  ·rw[if_neg e]
   rcases az.mp hu with hu | hu
   ·exact G.all u hu
   ·exact absurd (ag.mp hu) e
 ·rcases az.mp hu with hu | hu
  ·exact aQ _ (G.sub u hu)
  ·exact aO _ hu
section
variable {P:Program}{w:World}{K:ai}{mg:Str→Option Value}{base:Heap}{t:Adr}
theorem SAt.off {S:Addr→Prop}{H:Hp}{sr:Addr}{d:Ad}{b:ax}{q:SS} (A:SAt t S H sr d b q) {a:Addr}{xs:List V}{o:HO} (h:H a=some (.lst xs)) (hm:a∉cS d q) (hs:¬ S a):SAt t S (upd H a o) sr d b q:=by
 have kp:Kp S H (upd H a o):=Kp.put h (fun _ z=>by cases z) hs
 have nl:∀ {c:Addr}{u:HO},H c=some u→(∀ xs,u≠.lst xs)→upd H a o c=some u:=fun hc hn=>by rw[aN (cu hc h (hn xs))];exact hc
 have ml:∀ {c:Addr}{u:HO},H c=some u→c∈cS d q→upd H a o c=some u:=fun hc hn=>by rw[aN (fun z=>hm (by rw[← z];exact hn))];exact hc
 refine⟨?_,A.book.keep kp,?_,?_,ml A.dh Il,?_,fun x hx=>ml (A.xo x hx) (C2 hx),ml A.ready (by simp[cS]),fun x hx=>ml (A.pE x hx) (EG hx),A.Bh,A.nd,A.ns,A.kw,A.wk⟩
 ·obtain⟨dx,ho⟩:=A.obj;exact⟨dx,nl ho (by intro _ z;cases z)⟩
 ·obtain⟨kvs,hk,k⟩:=A.known;exact⟨kvs,nl hk (by intro _ z;cases z),k.imp fun v x z=>z.keep kp⟩
 ·obtain⟨ws,hw,k⟩:=A.bx;exact⟨ws,ml hw ML,k.keep kp⟩
 ·obtain⟨kvs,hk,k⟩:=A.wait;exact⟨kvs,nl hk (by intro _ z;cases z),k⟩
theorem SAt.Rf {S:Addr→Prop}{H:Hp}{sr:Addr}{d:Ad}{b:ax}{q:SS} (A:SAt t S H sr d b q) {a:Addr} (h:H a=none):a∉cS d q:=fun hm=>by
 obtain⟨xs,e⟩:=A.there a hm
 rw[h] at e
 cases e
theorem NF {S:Addr→Prop}{H:Hp}:∀ {us:List a3}{xs:List V},bh S H xs (us.map e9)→bh no H xs (us.map e9)
 | [],_,.nil=>.nil
 | u::us,_,.cons h a=>.cons (yh h) (NF a)
structure W6 (q:SS) (w:a3) (y:Way) (q':SS) (fr:List a3):Prop where
 known:q'.known=q.known
 bx:q'.bx=q.bx++[(w,y)]
 keys:q'.wait.map (·.1)=q.wait.map (·.1)++fr
 sub:∀ u∈fr,look q.known u=none∧∃ s∈y.steps,s.2=u
 Ua:(∀ x∈q.wait,x.2.2.length≤40 * q.bx.length)→∀ x∈q'.wait,x.2.2.length≤40 * q'.bx.length
def Cg (t:Adr):Sp:=fun vs H Q _=>Ex9 fun(S:Addr→Prop) (sr:Addr) (d:Ad) (b:ax) (q:SS) (vw vy:V) (wt:a3) (y:Way)=>vs=[.ref sr,vw,vy]∧SAt t S H sr d b q∧(∀ a,S a→H a≠none)∧Dv S H vw (e9 wt)∧Dv S H vy (kQ y)∧LI q []∧look q.wait wt≠none∧
 y.steps.length≤33∧q.bx.length≤20000∧q.wait.length+33≤20000∧(∀ x∈q.wait,x.2.2.length≤40 * q.bx.length)∧
 ∀ H' q' fr a xs,SAt t S H' sr d b q'→LI q' []→W6 q wt y q' fr→H' a=some (.lst xs)→H a=none→a∉cS d q'→bh no H' xs (fr.map e9)→(∀ e∈cS d q',e∈eN d q∨H e=none)→(∀ e,H' e=none→H e=none)→Ext (eN d q) H H'→Q (.ref a) H'
theorem CJ (T:Txt K mg t):cI P w K mg base CX0 2 t.gB t.jt ["self","want","way"] (Cg t):=by
 refine T.jC.ok fi (fun vs H Q E h=>by obtain⟨_,_,_,_,_,_,_,_,_,e,_⟩:=h;subst e;rfl) (fun cdv A outer s H vs Q E hr h=>?_)
 obtain⟨S,sr,d,b,q,vw,vy,wt,y,rfl,A,hSa,hvw,hvy,L,hwt,hst,hwl,ade,ZN,k⟩:=h
 have hu:=AF hr
 refine⟨_,(ak (bW (i:=3) fi.nd rfl (ba rfl) (dH cj (by rfl) T.nO cb (ah (bI (pv 0) rfl) aq)))
  (ak (cw (l5 aW bB bA d5 (bI (pv 0) rfl) (ah (dG (ah (pv 1) (ah (pv 2) aq))) aq)))
  (ak (HF (i:=4) (own:=[("step",5)]) rfl fi.nd rfl rfl rfl (eY (a9 aY (pv 2) aH (fun _ _=>rfl))) (show lp vh (aL lI) _ _ from⟨rfl,by decide +kernel,by decide +kernel,by decide +kernel,by decide +kernel⟩) (fun _ _ _ _ _=>(cg (i:=5) fi.nd rfl (ba rfl))) (fun _ _ _ _ _=>(Q8 (Ew (vc hu (a9 (r:=tR K) aY (pv 5) aH (fun _ _=>rfl)) (show PE _ _ (YT K (Vy 0) "known") from bI (pv 0) rfl))))) (fun _ _ _ _ _=>(a9 (r:=tR K) aY (pv 5) aH (fun _ _=>rfl))))
  (ak (cw (l5 aW bB bA d5 (bI (pv 0) rfl) (ah (dH cj (by rfl) T.nO cb (ah (pv 4) aq)) aq)))
  (ak (bW (i:=6) fi.nd rfl (ba rfl) (bX aq))
  (ak (iW PassesOwn.never rfl (eY (pv 4)) (cg (i:=7) fi.nd rfl (ba rfl)) (ak (b9 (Ew (vc hu (pv 7) (bI (pv 0) rfl))) (ak (CG hu (bI (pv 0) rfl) (pv 7) (bX aq) rfl)
  (aA (cw (l5 aW bB bA d5 (pv 6) (ah (pv 7) aq))))) bp)
  (aA (cw (l5 aW bB bA d5 (wH hu (bI (pv 0) rfl) (pv 7) (fun _ _=>rfl)) (ah (pv 3) aq))))))
  (ak (b9 (bo fe (dH cj (by rfl) T.nO cb (ah (pv 4) aq)) aH (bL _)) (aA (cw (cn (pv 0) T.bU T.rO (qu T) (hr.mono (by decide)) T.rQ .nil bw (ah (pv 3) aq)))) bp)
  (aA (a6 (pv 6)))))))))),?_⟩
 obtain⟨dx,ho⟩:=A.obj
 obtain⟨ws,hws,hwd⟩:=A.bx
 have Zz:ws.length=q.bx.length:=by rw[hwd.len,ae]
 have mA:∀ a∈cS d q,a∈eN d q:=fun a ha=>aO _ ha
 refine⟨_,rfl,sr,_,dx,_,_,rfl,ho,T.bU,T.kC,rfl,d.wl,_,rfl,.inl (SqL.of hws),?_⟩
 refine⟨_,rfl,sr,_,dx,_,_,rfl,ho,T.bU,T.kC,rfl,.inl ⟨rfl,_,SqL.of hws⟩,_,rfl,_,rfl,(by show 2≤sizeLine;decide),fun p1 hp1=>?_⟩
 have s1:=bg.new (o:=.tup [vw,vy]) hp1
 have hv1:Dv S (upd H p1 (.tup [vw,vy])) (.ref p1) (wwD (wt,y)):=.tup aE (.cons (hvw.keep (Kp.of_same s1)) (.cons (hvy.keep (Kp.of_same s1)) .nil))
 refine⟨d.wl,ws,_,rfl,rfl,s1 _ _ hws,by rw[Zz];exact small _ (by omega),?_⟩
 have A2:=(A.same s1).VL (s1 _ _ hws) hv1
 have x2:Ext (eN d q) H (upd (upd H p1 (.tup [vw,vy])) d.wl (.lst (ws++[.ref p1]))):=(Ext.of_same s1).trans (Ext.put (mA _ ML))
 have ZD:Dv S (upd (upd H p1 (.tup [vw,vy])) d.wl (.lst (ws++[.ref p1]))) vy (kQ y):=(hvy.keep (Kp.of_same s1)).keep ((A.same s1).kp ML)
 generalize upd (upd H p1 (.tup [vw,vy])) d.wl (.lst (ws++[.ref p1]))=H2 at A2 x2 ZD ⊢
 clear hp1 s1 hv1
 obtain⟨py,ph,pst,ss,rfl,hpy,_,hph,hps,hss⟩:=PJ ZD
 have hsl:ss.length=y.steps.length:=by rw[hss.len,ae]
 obtain⟨kvk,hkd,hkt⟩:=A2.known
 obtain⟨dx2,ho2⟩:=A2.obj
 dsimp only[RY,PV]
 refine Qu (S:=S) (os:=y.steps.map fun s=>if (look q.known s.2).isNone then some (e9 s.2) else none) ?_ (fun R h=>⟨_,rfl,py,_,_,_,rfl,rfl,SqT.of hpy,aF (j:=2) rfl,pst,rfl,⟨_,SqL.of hps⟩,h⟩) (Walks.list (SqL.of hps)) (by rw[hsl,ae]) (by rw[hsl];exact small _ (by omega)) ?_
 ·rw[Qv]
  intro v3 H3 s3 h3
  obtain⟨al,xl,rfl,_,hal,hxl⟩:=h3.wM
  have Um:xl.length=(iC q.known y).length:=by rw[hxl.len,ae]
  have acA:(iC q.known y).length≤33:=by
   unfold iC
   exact bP (qM _ _) (by rw[ae];exact hst)
  have A3:=A2.same s3
  have Z7:al∉cS d { q with bx:=q.bx++[(wt,y)] }:=fun hm=>(A2.nw s3).ns al hm (by cases h3 with | lst hs _ _=>exact hs)
  have x3:Ext (eN d q) H H3:=x2.trans (Ext.of_same s3)
  have Zw:=NF hxl
  obtain⟨dx3,ho3⟩:=A3.obj
  clear hxl h3
  refine⟨_,rfl,sr,_,dx3,_,_,rfl,ho3,T.bU,T.jy,rfl,.inl ⟨rfl,_,SqL.of A3.dh⟩,_,rfl,al,_,rfl,.inl (SqL.of hal),d.ll,nV q.dh,_,rfl,rfl,A3.dh,by rw[ra,L.len];exact small _ (by omega),?_⟩
  have ell:nV q.dh++[V.int xl.length]=nV (q.dh++[(iC q.known y).length]):=by rw[Um,← MK];rfl
  dsimp only
  rw[ell]
  have A4:=A3.Q7 (q.dh++[(iC q.known y).length])
  have We:upd H3 d.ll (.lst (nV (q.dh++[(iC q.known y).length]))) al=some (.lst xl):=by rw[aN (fun z=>Z7 (by rw[z];exact Il))];exact hal
  have V4:bh no (upd H3 d.ll (.lst (nV (q.dh++[(iC q.known y).length])))) xl ((iC q.known y).map e9):=Zw.keep (Kp.put A3.dh (fun _ z=>by cases z) id)
  have x4:Ext (eN d q) H (upd H3 d.ll (.lst (nV (q.dh++[(iC q.known y).length])))):=x3.trans (Ext.put (mA _ Il))
  generalize upd H3 d.ll (.lst (nV (q.dh++[(iC q.known y).length])))=H4 at A4 We V4 x4 ⊢
  clear A3 ho3 s3 hal Zw x3
  refine⟨aT _,fun af haf=>?_⟩
  have s5:=bg.new (o:=.lst []) haf
  have Wf:H af=none:=x4.none (by
   have:=A4.PU
   exact this) af haf
  have acQ:=A4.Rf haf
  have nal:af≠al:=br (bf We haf)
  have hSf:¬ S af:=fun z=>hSa af z Wf
  refine⟨_,rfl,al,rfl,⟨_,SqL.of (s5 _ _ We)⟩,?_⟩
  refine mI (K:=K) (a:=al) (xs:=xl) (fun m σ Hm=>(∃ z x,σ=[some (.ref sr),some vw,some (.ref py),some (.int q.bx.length),some (.ref al),z,some (.ref af),x])∧Hm al=some (.lst xl)∧bh no Hm xl ((iC q.known y).map e9)∧∃ ys fr qm,Hm af=some (.lst ys)∧bh no Hm ys (fr.map e9)∧fr.length≤m∧SAt t S Hm sr d b qm∧
   qm.known=q.known∧qm.bx=q.bx++[(wt,y)]∧qm.dh=q.dh++[(iC q.known y).length]∧qm.ready=q.ready∧y3 q q.bx.length ((iC q.known y).take m) qm.wait fr∧Ext (eN d q) H Hm∧af∉cS d qm∧al∉cS d qm∧qm.wait.length≤q.wait.length+m∧(∀ x∈qm.wait,x.2.2.length≤40 * q.bx.length+m)∧(∀ x∈qm.wait,x.2.1∈eN d q∨H x.2.1=none)∧∀ a,Hm a=none→H a=none)
   ⟨⟨_,_,by rw[Zz];rfl⟩,s5 _ _ We,V4.keep (Kp.of_same s5),[],[],_,aE,.nil,aB _,A4.same s5,rfl,rfl,rfl,rfl,y3.start q _,x4.trans (Ext.of_same s5),acQ,Z7,aB _,(fun x hx=>by have:=ZN x hx;omega),(fun x hx=>.inl (mA _ (C2 hx))),fun a ha=>x4.none A4.PU a (dz a ha)⟩ (fun i σ H' _ h=>SqL.of h.2.1) ?_ ?_
  ·rintro m v σ Hm hm ⟨⟨z,x,rfl⟩,Yg,XU,ys,fr,qm,Sw,hys,ZW,Am,hkm,hwm,hlm,hrm,Gm,xm,QB,Wd,Qx,Qy,Yh,X3⟩
   have hml:m < (iC q.known y).length:=by rw[← Um];exact(aP.mp hm).1
   obtain⟨d1,hd1,hv1⟩:=XU.get hm
   obtain⟨u,hu',rfl⟩:=cx hd1
   obtain⟨c,rfl,hc⟩:=qe hv1
   have hsn:(iC q.known y).take (m+1)=(iC q.known y).take m++[u]:=cV hu'
   obtain⟨dxm,hom⟩:=Am.obj
   obtain⟨kvw,Up,XW⟩:=Am.wait
   have enV:∀ l:List Nat,nV l++[V.int q.bx.length]=nV (l++[q.bx.length]):=fun l=>by rw[← MK];rfl
   have hen:∀ (q0:SS) (v:a3),cS d { q0 with wait:=q0.wait.map (dY v q.bx.length) }=cS d q0:=fun q0 v=>by
    unfold cS
    dsimp only
    rw[bt]
    congr 2
    exact bF fun x _=>uf v _ x
   have WR:∀ (l:List (a3×Addr×List Nat)) (v:a3) (B:Nat),(∀ x∈l,x.2.2.length≤B)→∀ x∈l.map (dY v q.bx.length),x.2.2.length≤B+1:=fun l v B hB x hx=>by
    obtain⟨x0,hx0,rfl⟩:=ay.mp hx
    have:=hB x0 hx0
    unfold dY
    split
    ·show(x0.2.2++[_]).length≤_
     rw[au,bD]
     omega
    ·omega
   have aaa:∀ (l:List (a3×Addr×List Nat)) (v:a3),(∀ x∈l,x.2.1∈eN d q∨H x.2.1=none)→∀ x∈l.map (dY v q.bx.length),x.2.1∈eN d q∨H x.2.1=none:=fun l v hB x hx=>by
    obtain⟨x0,hx0,rfl⟩:=ay.mp hx
    rw[uf]
    exact hB x0 hx0
   refine⟨_,rfl,_,rfl,sr,_,dxm,_,_,rfl,hom,T.bU,T.dS,rfl,d.wd,_,rfl,oO.t Up hc,_,rfl,?_⟩
   rw[XW.has u]
   cases hw:look qm.wait u with
   | some xw=>
     obtain⟨aw,l⟩:=xw
     refine z0 ?_
     obtain⟨vv,hvv,rfl⟩:=XW.get hw
     have Yc:=Am.LM hw
     have Z1:aw∈cS d qm:=C2 (x:=(u,aw,l)) (oa hw)
     have hll:=Qy _ (oa hw)
     dsimp only at hll
     have naf:af≠aw:=fun z=>QB (by rw[z];exact Z1)
     have ab5:al≠aw:=fun z=>Wd (by rw[z];exact Z1)
     refine⟨_,rfl,sr,_,dxm,_,_,rfl,hom,T.bU,T.dS,rfl,_,rfl,d.wd,.ref aw,rfl,by rw[← hvv];exact oO.t Up hc,.inl ⟨rfl,_,SqL.of Yc⟩,_,rfl,aw,nV l,_,rfl,rfl,Yc,by rw[ra];exact small _ (by omega),?_⟩
     dsimp only
     rw[enV]
     have kp:Kp no Hm (upd Hm aw (.lst (nV (l++[q.bx.length])))):=Kp.put Yc (fun _ z=>by cases z) id
     have hxm:Ext (eN d q) H (upd Hm aw (.lst (nV (l++[q.bx.length])))):=fun e o he hne=>by
      by_cases hea:e=aw
      ·rcases Yh _ (oa hw) with g | g
       ·exact absurd (by rw[hea];exact g) hne
       ·rw[hea] at he
        rw[show H aw=none from g] at he
        cases he
      ·rw[aN hea];exact xm e o he hne
     refine⟨⟨_,_,rfl⟩,by rw[aN ab5];exact Yg,XU.keep kp,ys,fr,_,by rw[aN naf];exact Sw,hys.keep kp,by omega,Am.Ob hw,hkm,hwm,hlm,hrm,by rw[hsn];exact Gm.step (by rw[hw];exact fun z=>nomatch z),hxm,by rw[hen];exact QB,by rw[hen];exact Wd,by show(qm.wait.map _).length≤_;rw[ae];omega,(fun x hx=>WR _ _ _ Qy x hx),aaa _ _ Yh,fun a ha=>X3 a (dz a ha)⟩
   | none=>
     refine uL ?_
     refine⟨aT _,fun aw haw=>?_⟩
     have sa:=bg.new (o:=.lst []) haw
     have Ye:H aw=none:=X3 aw haw
     have hkl:kvw.length < sizeLine:=by
      rw[XW.len]
      exact small _ (by omega)
     refine⟨_,rfl,sr,_,dxm,_,_,rfl,sa _ _ hom,T.bU,T.dS,rfl,_,rfl,d.wd,_,rfl,KD.t (sa _ _ Up) (sa _ _ hc) hkl,?_⟩
     have Ab:=(Am.same sa).Q6 (sa _ _ Up) hw (aE (H:=Hm)) (Am.Rf haw) (fun z=>hSa aw z Ye)
     have Uq:=sa _ _ Up
     have naw:af≠aw:=bf Sw haw
     have nlw:al≠aw:=bf Yg haw
     have Sx:=noD (o:=.dT (putK kvw (jK u) (.ref aw))) Uq (sa _ _ Sw) (by intro _ z;cases z)
     have Z6:=noD (o:=.dT (putK kvw (jK u) (.ref aw))) Uq (sa _ _ Yg) (by intro _ z;cases z)
     have hcb:=noD (o:=.dT (putK kvw (jK u) (.ref aw))) Uq (sa _ _ hc) (by intro _ z;cases z)
     have Zv:=zi (o:=.dT (putK kvw (jK u) (.ref aw))) Uq (XU.keep (Kp.of_same sa))
     have Zq:=zi (o:=.dT (putK kvw (jK u) (.ref aw))) Uq (hys.keep (Kp.of_same sa))
     have mb:cS d { qm with wait:=qm.wait++[(u,aw,[])] }=cS d qm++[aw]:=by
      unfold cS
      dsimp only
      rw[aJ,bK,bK]
      rfl
     have WV:af∉cS d { qm with wait:=qm.wait++[(u,aw,[])] }:=by
      rw[mb]
      intro z
      rcases az.mp z with z | z
      ·exact QB z
      ·exact naw (ag.mp z)
     have Z5:al∉cS d { qm with wait:=qm.wait++[(u,aw,[])] }:=by
      rw[mb]
      intro z
      rcases az.mp z with z | z
      ·exact Wd z
      ·exact nlw (ag.mp z)
     have mwd:d.wd∈eN d q:=by simp[eN]
     have xb:Ext (eN d q) H (upd (upd Hm aw (.lst [])) d.wd (.dT (putK kvw (jK u) (.ref aw)))):=(xm.trans (Ext.of_same sa)).trans (Ext.put mwd)
     have nob:∀ a,upd (upd Hm aw (.lst [])) d.wd (.dT (putK kvw (jK u) (.ref aw))) a=none→H a=none:=fun a ha=>X3 a (dz a (dz a ha))
     generalize upd (upd Hm aw (.lst [])) d.wd (.dT (putK kvw (jK u) (.ref aw)))=Hb at Ab Sx Z6 hcb Zv Zq xb nob ⊢
     refine⟨_,rfl,.inl ⟨rfl,_,SqL.of Sx⟩,_,rfl,af,ys,_,rfl,rfl,Sx,?_,?_⟩
     ·rw[hys.len,ae]
      exact small _ (by omega)
     have Ac:=Ab.off (o:=.lst (ys++[.ref c])) Sx WV hSf
     have kc:Kp no Hb (upd Hb af (.lst (ys++[.ref c]))):=Kp.put Sx (fun _ z=>by cases z) id
     have Z4:upd Hb af (.lst (ys++[.ref c])) al=some (.lst xl):=by rw[aN (br nal)];exact Z6
     have hcc:upd Hb af (.lst (ys++[.ref c])) c=some (.tup ((jK u).map kV)):=by rw[aN (cu hcb Sx (by intro z;cases z))];exact hcb
     have Zu:=Zv.keep kc
     have Zp:bh no (upd Hb af (.lst (ys++[.ref c]))) (ys++[.ref c]) ((fr++[u]).map e9):=by
      rw[aJ]
      exact(Zq.keep kc).append (.cons (.tup hcc (bh.ints [u.1,u.2])) .nil)
     have Z8:upd Hb af (.lst (ys++[.ref c])) af=some (.lst (ys++[.ref c])):=aE
     have xc:Ext (eN d q) H (upd Hb af (.lst (ys++[.ref c]))):=fun e o he hne=>by rw[aN (bf he Wf)];exact xb e o he hne
     have noc:∀ a,upd Hb af (.lst (ys++[.ref c])) a=none→H a=none:=fun a ha=>nob a (dz a ha)
     generalize upd Hb af (.lst (ys++[.ref c]))=Hc at Ac Z4 hcc Zu Zp Z8 xc noc ⊢
     have hwc:look (qm.wait++[(u,aw,[])]) u=some (aw,[]):=by rw[kh qm.wait u (aw,[]) u hw,if_pos rfl]
     obtain⟨dxc,hoc⟩:=Ac.obj
     obtain⟨kvc,ach,acg⟩:=Ac.wait
     obtain⟨vv,hvv,rfl⟩:=acg.get (w:=u) (x:=(aw,[])) hwc
     have Yd:=Ac.LM (u:=u) hwc
     refine⟨_,rfl,sr,_,dxc,_,_,rfl,hoc,T.bU,T.dS,rfl,_,rfl,d.wd,.ref aw,rfl,by rw[← hvv];exact oO.t ach hcc,.inl ⟨rfl,_,SqL.of Yd⟩,_,rfl,aw,nV [],_,rfl,rfl,Yd,by show 0 < sizeLine;decide,?_⟩
     dsimp only
     rw[enV]
     have kp:Kp no Hc (upd Hc aw (.lst (nV ([]++[q.bx.length])))):=Kp.put Yd (fun _ z=>by cases z) id
     refine⟨⟨_,_,rfl⟩,by rw[aN nlw];exact Z4,Zu.keep kp,ys++[.ref c],fr++[u],_,by rw[aN naw];exact Z8,Zp.keep kp,by rw[au,bD];omega,Ac.Ob hwc,hkm,hwm,hlm,hrm,by rw[hsn];exact Gm.both hw aw,fun e o he hne=>by rw[aN (bf he Ye)];exact xc e o he hne,by rw[hen];exact WV,by rw[hen];exact Z5,?_,?_,?_,fun a ha=>noc a (dz a ha)⟩
     ·show((qm.wait++[(u,aw,[])]).map _).length≤_
      rw[ae,au,bD]
      omega
     ·refine WR _ _ _ fun x hx=>?_
      rcases az.mp hx with hx | hx
      ·exact Qy x hx
      ·rw[ag.mp hx]
       exact aT _
     ·refine aaa _ _ fun x hx=>?_
      rcases az.mp hx with hx | hx
      ·exact Yh x hx
      ·rw[ag.mp hx]
       exact .inr Ye
  ·rintro σ Hn ⟨⟨z,x,rfl⟩,Z2,ada,ys,fr,qn,Sw,hys,ZW,An,hkn,hwn,hln,hrn,Gn,xn,QB,Wd,adb,Uz,Z9,ZK⟩
   rw[Um,cz] at Gn
   rw[Um] at ZW Uz
   have TU:qn.bx[q.bx.length]?=some (wt,y):=by
    rw[hwn,cB (aB _),mZ]
    rfl
   have ZI:∀ q',q'.known=q.known→q'.bx=q.bx++[(wt,y)]→q'.wait=qn.wait→W6 q wt y q' fr:=fun q' h1 h2 h3=>by
    refine⟨h1,h2,by rw[h3];exact Gn.keys,fun u hu=>?_,fun _ x hx=>?_⟩
    ·obtain⟨hk0,s,hs,e⟩:=EL.mp (Gn.sub u hu)
     exact⟨hk0,s,hs,e⟩
    ·rw[h3] at hx
     have:=Uz x hx
     rw[h2,au,bD]
     omega
   have hmn:∀ e∈cS d qn,e∈eN d q∨H e=none:=fun e hm=>by
    unfold cS at hm
    rcases az.mp hm with hm | hm
    ·exact .inl (mA _ (aQ _ hm))
    ·rcases az.mp hm with hm | hm
     ·rw[hrn] at hm
      exact .inl (mA _ (aO _ (aQ _ hm)))
     ·obtain⟨x0,hx0,rfl⟩:=ay.mp hm
      exact Z9 x0 hx0
   refine⟨_,rfl,al,_,rfl,.inl (SqL.of Z2),rfl,_,rfl,?_⟩
   by_cases he:iC q.known y=[]
   ·refine nz (by rw[Um,he];rfl) ?_
    obtain⟨dxn,hon⟩:=An.obj
    have hs:∀ s∈y.steps,∃ x,look qn.known s.2=some x:=fun s hs=>by
     rw[hkn]
     cases e:look q.known s.2 with
     | some x=>exact⟨x,rfl⟩
     | none=>
       have:=EL.mpr ⟨e,s,hs,rfl⟩
       rw[he] at this
       cases this
    refine⟨_,rfl,sr,dxn,_,rfl,hon,rfl,_,rfl,S,sr,d,b,qn,q.bx.length,wt,y,rfl,An,TU,hs,fun x hx=>?_,fun H' A' x'=>?_⟩
    ·rw[hrn] at hx
     have:=El L hx
     omega
    ·obtain⟨r1,r2,r3,r4,r5⟩:=Q2 qn q.bx.length y
     have L':LI (rdy qn q.bx.length y) []:=by
      refine L.add (q':=rdy qn q.bx.length y) (fr:=fr) hwt A.Bh (r1.trans hkn) (r2.trans hwn) (r3.trans hln) (by rw[r4];exact Gn) ?_
      rw[if_pos he]
      have e1:({ (rdy qn q.bx.length y) with ready:=q.ready }:SS)=qn:=by
       have eta:∀ (p z:SS) (r:List (Addr×List Nat)),p.known=z.known→p.bx=z.bx→p.dh=z.dh→p.wait=z.wait→r=z.ready→({ p with ready:=r }:SS)=z:=fun p z r h1 h2 h3 h4 h5=>by
        cases p
        cases z
        dsimp only at h1 h2 h3 h4 h5
        subst h1;subst h2;subst h3;subst h4;subst h5
        rfl
       exact eta _ _ _ r1 r2 r3 r4 hrn.symm
      rw[e1]
     have mL:cS d (rdy qn q.bx.length y)=cS d qn:=GL r4 r5
     refine⟨_,rfl,k H' _ fr af ys A' L' (ZI _ (r1.trans hkn) (r2.trans hwn) r4) (x' _ _ Sw QB) Wf (by rw[mL];exact QB) (hys.keep (Kp.sV x' fun a ha=>⟨id,fun xs hx=>?_⟩)) (by rw[mL];exact hmn) (fun e he=>ZK e (x'.none (fun a ha=>?_) e he)) (fun e o he' hne=>?_)⟩
     ·obtain⟨zs,hz⟩:=An.there a ha
      rw[hz] at hx
      cases hx
     ·rw[← mL] at ha
      obtain⟨zs,hz⟩:=A'.there a ha
      rw[hz]
      exact fun z=>nomatch z
     ·refine x' e o (xn e o he' hne) fun hm=>?_
      unfold cS at hm
      rcases az.mp hm with hm | hm
      ·exact hne (mA _ (aQ _ hm))
      ·rcases az.mp hm with hm | hm
       ·rw[hrn] at hm
        exact hne (mA _ (aO _ (aQ _ hm)))
       ·obtain⟨x0,hx0,rfl⟩:=ay.mp hm
        rcases Z9 x0 hx0 with g | g
        ·exact hne g
        ·rw[g] at he';cases he'
   ·refine c5 (fun z=>he (oV.mp (by omega))) ?_
    have L':LI qn []:=by
     refine L.add (q':=qn) (fr:=fr) hwt A.Bh hkn hwn hln Gn ?_
     rw[if_neg he]
     exact hrn
    exact⟨_,rfl,k Hn qn fr af ys An L' (ZI qn hkn hwn rfl) Sw Wf QB hys hmn ZK xn⟩
 ·intro i v o H1 hv ho s1 Z W hZ hW
  obtain⟨s,hs,rfl⟩:=cx ho
  obtain⟨d1,hd1,hv1⟩:=hss.get hv
  obtain⟨s',hs',rfl⟩:=cx hd1
  rw[hs] at hs'
  obtain rfl:=aa hs'
  obtain⟨pp,pc,vw2,rfl,hpp,_,hpc,ZE⟩:=step_at hv1
  obtain⟨a,rfl,ha⟩:=qe ZE
  refine⟨rfl,?_⟩
  refine⟨_,rfl,pp,_,_,_,rfl,rfl,SqT.of (s1 _ _ hpp),aF (j:=1) rfl,?_⟩
  refine⟨_,rfl,sr,_,dx2,_,_,rfl,s1 _ _ ho2,T.bU,T.ff,rfl,d.kd,_,rfl,oO.t (s1 _ _ hkd) (s1 _ _ ha),_,rfl,?_⟩
  rw[hkt.has s.2]
  dsimp only
  cases hk:look q.known s.2 with
  | some x=>exact z0 (hW (by rw[hk];rfl) _ (bg.refl _))
  | none=>
    refine uL ⟨_,rfl,pp,_,_,_,rfl,rfl,SqT.of (s1 _ _ hpp),aF (j:=1) rfl,hZ (e9 s.2) (by rw[hk];rfl) _ _ (bg.refl _) (yh (ZE.keep (Kp.of_same s1)))⟩
end
end U
namespace U
open PySem PySem.Spec PyProof.Rows L2
open PySem.W (Codec)
open Ways KpFix
section
variable {P:Program}{w:World}{K:ai}{mg:Str→Option Value}{base:Heap}{t:Adr}
theorem UY {S:Addr→Prop}{H:Hp}{a C dx:Addr}{fs:List (Str×V)} (h:H a=some (.ins C dx fs)) {o:HO}{v:V}{e:D} (hv:Dv S H v e):Dv S (upd H a o) v e:=
 yV (fun x xs hx=>by rw[aN (cu hx h (by intro z;cases z))];exact hx) (fun x xs _ hx=>by rw[aN (cu hx h (by intro z;cases z))];exact hx) e v hv
structure Mk0 (t:Adr) (S:Addr→Prop) (H:Hp) (sr dx l kd:Addr) (b:ax) (kvs:List (List Key×V)) (ks:Known) (H1:Hp) (fs:List (Str×V)) (ls ds:List Addr):Prop where
 obj:H1 sr=some (.ins t.bM dx fs)
 ext:Ext [sr] H H1
 book:Dv S H1 (.ref l) (Pd b)
 kdh:H1 kd=some (.dT kvs)
 ksh:TabAt (fun v x=>Dv S H1 v (knD x)) kvs ks
 lsh:∀ a∈ls,H1 a=some (.lst [])∧H a=none
 dsh:∀ a∈ds,H1 a=some (.dT [])∧H a=none
 nd:ls.Nodup
theorem Mk0.put {S:Addr→Prop}{H:Hp}{sr dx l kd:Addr}{b:ax}{kvs:List (List Key×V)}{ks:Known}{H1:Hp}{fs fs':List (Str×V)}{ls ds:List Addr} (g:Mk0 t S H sr dx l kd b kvs ks H1 fs ls ds):Mk0 t S H sr dx l kd b kvs ks (upd H1 sr (.ins t.bM dx fs')) fs' ls ds where
 obj:=aE
 ext:=g.ext.trans (Ext.put (ag.mpr rfl))
 book:=UY g.obj g.book
 kdh:=by rw[aN (cu g.kdh g.obj (by intro z;cases z))];exact g.kdh
 ksh:=g.ksh.imp fun v x z=>UY g.obj z
 lsh:=fun a ha=>⟨by rw[aN (cu (g.lsh a ha).1 g.obj (by intro z;cases z))];exact(g.lsh a ha).1,(g.lsh a ha).2⟩
 dsh:=fun a ha=>⟨by rw[aN (cu (g.dsh a ha).1 g.obj (by intro z;cases z))];exact(g.dsh a ha).1,(g.dsh a ha).2⟩
 nd:=g.nd
theorem Mk0.same {S:Addr→Prop}{H:Hp}{sr dx l kd:Addr}{b:ax}{kvs:List (List Key×V)}{ks:Known}{H1 H2:Hp}{fs:List (Str×V)}{ls ds:List Addr} (g:Mk0 t S H sr dx l kd b kvs ks H1 fs ls ds) (s:bg H1 H2):Mk0 t S H sr dx l kd b kvs ks H2 fs ls ds where
 obj:=s _ _ g.obj
 ext:=g.ext.trans (Ext.of_same s)
 book:=g.book.keep (Kp.of_same s)
 kdh:=s _ _ g.kdh
 ksh:=g.ksh.imp fun v x z=>z.keep (Kp.of_same s)
 lsh:=fun a ha=>⟨s _ _ (g.lsh a ha).1,(g.lsh a ha).2⟩
 dsh:=fun a ha=>⟨s _ _ (g.dsh a ha).1,(g.dsh a ha).2⟩
 nd:=g.nd
theorem Mk0.non {S:Addr→Prop}{H:Hp}{sr dx l kd:Addr}{b:ax}{kvs:List (List Key×V)}{ks:Known}{H1:Hp}{fs:List (Str×V)}{ls ds:List Addr} (g:Mk0 t S H sr dx l kd b kvs ks H1 fs ls ds) {p:Addr} (h:H1 p=none):H p=none:=
 g.ext.none (fun a ha=>by rw[ag.mp ha,g.obj];exact fun z=>nomatch z) p h
theorem Mk0.lst {S:Addr→Prop}{H:Hp}{sr dx l kd:Addr}{b:ax}{kvs:List (List Key×V)}{ks:Known}{H1:Hp}{fs:List (Str×V)}{ls ds:List Addr} (g:Mk0 t S H sr dx l kd b kvs ks H1 fs ls ds) {p:Addr} (h:H1 p=none):Mk0 t S H sr dx l kd b kvs ks (upd H1 p (.lst [])) fs (ls++[p]) ds:=
 { g.same (bg.new (o:=.lst []) h) with
   lsh:=fun a ha=>by
    rcases az.mp ha with ha | ha
    ·exact⟨bg.new h _ _ (g.lsh a ha).1,(g.lsh a ha).2⟩
    ·rw[ag.mp ha]
     exact⟨aE,g.non h⟩
   nd:=ua g.nd fun m=>by rw[(g.lsh p m).1] at h;cases h }
theorem Mk0.dic {S:Addr→Prop}{H:Hp}{sr dx l kd:Addr}{b:ax}{kvs:List (List Key×V)}{ks:Known}{H1:Hp}{fs:List (Str×V)}{ls ds:List Addr} (g:Mk0 t S H sr dx l kd b kvs ks H1 fs ls ds) {p:Addr} (h:H1 p=none):Mk0 t S H sr dx l kd b kvs ks (upd H1 p (.dT [])) fs ls (ds++[p]):=
 { g.same (bg.new (o:=.dT []) h) with
   dsh:=fun a ha=>by
    rcases az.mp ha with ha | ha
    ·exact⟨bg.new h _ _ (g.dsh a ha).1,(g.dsh a ha).2⟩
    ·rw[ag.mp ha]
     exact⟨aE,g.non h⟩ }
theorem Mk0.off {S:Addr→Prop}{H:Hp}{sr dx l kd:Addr}{b:ax}{kvs:List (List Key×V)}{ks:Known}{H1:Hp}{fs:List (Str×V)}{ls ds:List Addr} (g:Mk0 t S H sr dx l kd b kvs ks H1 fs ls ds) {p:Addr}{xs:List V}{o:HO} (h:H1 p=some (.lst xs)) (h0:H p=none) (hS:∀ a,S a→H a≠none) (hp:p∉ls):Mk0 t S H sr dx l kd b kvs ks (upd H1 p o) fs ls ds:=
 have kp:Kp S H1 (upd H1 p o):=Kp.put h (fun _ z=>by cases z) fun z=>hS p z h0
 ⟨by rw[aN (cu g.obj h (by intro z;cases z))];exact g.obj,fun c u e m=>by rw[aN (bf e h0)];exact g.ext c u e m,g.book.keep kp,by rw[aN (cu g.kdh h (by intro z;cases z))];exact g.kdh,g.ksh.imp fun v x z=>z.keep kp,
  fun a ha=>⟨by rw[aN (show a≠p from fun z=>hp (z▸ha))];exact(g.lsh a ha).1,(g.lsh a ha).2⟩,fun a ha=>⟨by rw[aN (cu (g.dsh a ha).1 h (by intro z;cases z))];exact(g.dsh a ha).1,(g.dsh a ha).2⟩,g.nd⟩
def Ho (t:Adr):Sp:=fun vs H Q _=>Ex8 fun(S:Addr→Prop) (sr dx l kd:Addr) (b:ax) (kvs:List (List Key×V)) (ks:Known)=>vs=[.ref sr,.ref l,.ref kd]∧H sr=some (.ins t.bM dx [])∧(∀ a,S a→H a≠none)∧Dv S H (.ref l) (Pd b)∧H kd=some (.dT kvs)∧TabAt (fun v x=>Dv S H v (knD x)) kvs ks∧
 ∀ H' d q,d.l=l→d.kd=kd→SAt t S H' sr d b q→q.known=ks→q.bx=[]→q.dh=[]→q.wait=[]→(∀ x∈q.ready,x.2=[])→(∀ a∈cS d q,H a=none)→H d.wd=none→Ext [sr] H H'→Q .non H'
theorem HX (T:Txt K mg t):cI P w K mg base CX0 1 t.ku t.mP ["self","told","known"] (Ho t):=by
 refine T.pY.ok sG (fun vs H Q E h=>by obtain⟨_,_,_,_,_,_,_,_,e,_⟩:=h;subst e;rfl) (fun cdv A outer s H vs Q E hr h=>?_)
 obtain⟨S,sr,dx,l,kd,b,kvs,ks,rfl,hf,hSa,hb,hkd,hks,k⟩:=h
 refine⟨_,(ak (gm (pv 0) (pv 1) rfl)
  (ak (gm (pv 0) (pv 2) rfl)
  (ak (gm (pv 0) (bX aq) rfl)
  (ak (gm (pv 0) (bX aq) rfl)
  (ak (gm (pv 0) HI rfl)
  (aA (gm (pv 0) (rE (own:=[("parts",3)]) rfl sG.nd (La rfl T.zm (ah (i4 pF (bz rfl T.sg T.sd) aH) aq)) (show lp AD (aL pV) _ _ from⟨rfl,by decide +kernel,by decide +kernel,by decide +kernel,by decide +kernel⟩) (fun _ _ _ _ _=>(cg (i:=3) sG.nd rfl (ba rfl))) (fun _ _ _ _ _=>iA) (fun _ _ _ _ _=>(bX aq))) rfl))))))),?_⟩
 have g0:Mk0 t S H sr dx l kd b kvs ks H [] [] []:=⟨hf,Ext.refl _ _,hb,hkd,hks,fun _ h=>(by cases h),fun _ h=>(by cases h),pS⟩
 refine⟨_,rfl,_,rfl,sr,_,dx,_,rfl,hf,T.bU,T.AN,(by show 0 < 1000;decide),?_⟩
 have g1:=g0.put (fs':=[("told",.ref l)])
 refine⟨_,rfl,_,rfl,sr,_,dx,_,rfl,g1.obj,T.bU,T.ff,(by show 1 < 1000;decide),?_⟩
 have g2:=g1.put (fs':=[("told",.ref l),("known",.ref kd)])
 refine⟨aT _,fun wl hwl=>?_⟩
 have g3:=(g2.lst hwl).put (fs':=[("told",.ref l),("known",.ref kd),("ways",.ref wl)])
 refine⟨_,rfl,sr,_,dx,_,rfl,(g2.lst hwl).obj,T.bU,T.kC,(by show 2 < 1000;decide),?_⟩
 refine⟨aT _,fun ll hll=>?_⟩
 have g4:=(g3.lst hll).put (fs':=[("told",.ref l),("known",.ref kd),("ways",.ref wl),("lacking",.ref ll)])
 refine⟨_,rfl,sr,_,dx,_,rfl,(g3.lst hll).obj,T.bU,T.jy,(by show 3 < 1000;decide),?_⟩
 refine fun wd hwd=>?_
 have g5:=(g4.dic hwd).put (fs':=[("told",.ref l),("known",.ref kd),("ways",.ref wl),("lacking",.ref ll),("waiting",.ref wd)])
 refine⟨_,rfl,sr,_,dx,_,rfl,(g4.dic hwd).obj,T.bU,T.dS,(by show 4 < 1000;decide),?_⟩
 dsimp only[RY,Y0]
 refine WM (Itr 0 201) 201 (fun D i H'=>∃ ads,ads.length=i∧H' D=some (.lst (ads.map V.ref))∧D∉([]++[wl])++[ll]++ads∧H D=none∧Mk0 t S H sr dx l kd b kvs ks H' [("told",.ref l),("known",.ref kd),("ways",.ref wl),("lacking",.ref ll),("waiting",.ref wd)] (([]++[wl])++[ll]++ads) ([]++[wd]))
  (fun R h=>⟨_,_,rfl,rfl,200+1,rfl,by decide,by decide,h⟩) (fun D hD=>⟨[],rfl,aE,fun m=>?_,g5.non hD,by rw[cq];exact g5.same (bg.new hD)⟩) ?_ ?_
 ·rw[cq] at m
  exact absurd ((g5.lsh D m).1.symm.trans hD) (fun z=>nomatch z)
 ·rintro D i H' hD hi ⟨ads,hl,hDl,hDn,hD0,g⟩
  refine⟨hi,?_⟩
  rintro x H2 ⟨rfl,rfl⟩
  refine⟨rfl,aT _,fun p hp=>?_⟩
  refine⟨_,bg.new hp _ _ hDl,?_,ads++[p],by rw[au,hl];rfl,?_,?_,hD0,?_⟩
  ·rw[ae,hl];exact small _ (by omega)
  ·rw[aE,aJ];rfl
  ·rw[← bK]
   intro m
   rcases az.mp m with m | m
   ·exact hDn m
   ·rw[← ag.mp m,hDl] at hp
    cases hp
  ·have g':=g.lst hp
   rw[← bK]
   have acS:D∉([]++[wl]++[ll]++ads)++[p]:=fun m=>by
    rcases az.mp m with m | m
    ·exact hDn m
    ·rw[← ag.mp m,hDl] at hp
     cases hp
   exact g'.off (bg.new hp _ _ hDl) hD0 hSa acS
 ·rintro D H' hD ⟨ads,hl,hDl,hDn,hD0,g⟩
  refine⟨aB _,?_⟩
  refine⟨_,rfl,sr,_,dx,_,rfl,g.obj,T.bU,T.tF,(by show 5 < 1000;decide),?_⟩
  have g':=g.put (fs':=[("told",.ref l),("known",.ref kd),("ways",.ref wl),("lacking",.ref ll),("waiting",.ref wd),("ready",.ref D)])
  have acT:upd H' sr (.ins t.bM dx [("told",.ref l),("known",.ref kd),("ways",.ref wl),("lacking",.ref ll),("waiting",.ref wd),("ready",.ref D)]) D=some (.lst (ads.map V.ref)):=by
   rw[aN (cu hDl g.obj (by intro z;cases z))];exact hDl
  refine k (upd H' sr (.ins t.bM dx [("told",.ref l),("known",.ref kd),("ways",.ref wl),("lacking",.ref ll),("waiting",.ref wd),("ready",.ref D)])) ⟨l,kd,wl,ll,wd,D⟩ ⟨ks,[],[],[],ads.map fun a=>(a,[])⟩ rfl rfl ?_ rfl rfl rfl rfl (fun x hx=>?_) ?_ (g'.dsh wd (by simp)).2 g'.ext
  ·have em:cS ⟨l,kd,wl,ll,wd,D⟩ ⟨ks,[],[],[],ads.map fun a=>(a,[])⟩=[wl,ll,D]++ads:=by
    unfold cS
    dsimp only
    rw[bt,tX,cq]
    congr 1
    exact List.map_id' ads
   have e3:[]++[wl]++[ll]++ads=wl::ll::ads:=rfl
   have hls:=g'.lsh
   rw[e3] at hls hDn
   refine⟨⟨dx,g'.obj⟩,g'.book,⟨kvs,g'.kdh,g'.ksh⟩,⟨[],(hls wl (by simp)).1,.nil⟩,(hls ll (by simp)).1,⟨[],(g'.dsh wd (by simp)).1,.nil⟩,fun x hx=>(by cases hx),?_,fun x hx=>?_,?_,?_,?_,?_,pS⟩
   ·rw[acT,bt];rfl
   ·obtain⟨a,ha,rfl⟩:=ay.mp hx
    exact(hls a (by simp[ha])).1
   ·show(ads.map fun a=>(a,([]:List Nat))).length=201
    rw[ae];exact hl
   ·rw[em]
    have nd:=g.nd
    rw[e3] at nd
    simp only[c7,aC,not_or] at nd hDn
    simp only[mW,dm,c7,aC,not_or]
    exact⟨⟨nd.1.1,br hDn.1,nd.1.2⟩,⟨br hDn.2.1,nd.2.1⟩,hDn.2.2,nd.2.2⟩
   ·rw[em]
    intro a ha hs
    have:H a=none:=by
     simp only[mW,dm,aC] at ha
     rcases ha with rfl | rfl | rfl | ha
     ·exact(hls _ (by simp)).2
     ·exact(hls _ (by simp)).2
     ·exact hD0
     ·exact(hls _ (by simp[ha])).2
    exact hSa a hs this
   ·exact fun z=>by
     have:=(g'.dsh wd (by simp)).2
     have z:kd=wd:=z
     rw[← z,hkd] at this
     cases this
  ·obtain⟨a,ha,rfl⟩:=ay.mp hx
   rfl
  ·intro a ha
   have hls:=g'.lsh
   unfold cS at ha
   simp only[bt,tX,cq,mW,dm,aC] at ha
   rcases ha with rfl | rfl | rfl | ha
   ·exact(hls _ (by simp)).2
   ·exact(hls _ (by simp)).2
   ·exact hD0
   ·obtain⟨a',ha',rfl⟩:=ay.mp ha
    exact(hls a' (aO _ ha')).2
end
end U
namespace U
open PySem PySem.Spec PyProof.Rows L2
open PySem.W (Codec)
open Ways KpFix
section
variable {P:Program}{w:World}{K:ai}{mg:Str→Option Value}{base:Heap}{t:Adr}
structure GI (t:Adr) (S:Addr→Prop) (H:Hp) (sr:Addr) (d:Ad) (b:ax) (q0:SS) (f:Addr) (Si:Addr→Prop) (Hi:Hp) (q:SS) (fr:List a3):Prop where
 sat:SAt t Si Hi sr d b q
 al:∀ a,Si a→Hi a≠none
 sub:∀ a,Si a→nw S H a
 li:LI q []
 own:∀ (i:Nat) (w:a3) (y:Way),q.bx[i]?=some (w,y)→inB b w∧y∈eB b w
 ki:∀ w∈q.wait.map (·.1),inB b w∧look q0.known w=none
 known:q.known=q0.known
 fl:∃ xs,Hi f=some (.lst xs)∧bh no Hi xs (fr.map e9)
 fm:f∉cS d q
 fs:¬ Si f
 fk:∀ u∈fr,look q.wait u≠none
 Ua:∀ x∈q.wait,x.2.2.length≤40 * q.bx.length
 mn:∀ a∈cS d q,a∈cS d q0∨H a=none
 ext:Ext (eN d q0) H Hi
 non:∀ a,Hi a=none→H a=none
theorem SAt.Zc {S:Addr→Prop}{H:Hp}{sr:Addr}{d:Ad}{b:ax}{q:SS} (A:SAt t S H sr d b q) {a:Addr}{xs:List V} (h:H a=some (.lst xs)) (hm:a∉cS d q):a∉eN d q:=fun m=>by
 obtain⟨_,h1,_⟩:=A.known
 obtain⟨_,h2,_⟩:=A.wait
 unfold eN at m
 rcases az.mp m with m | m
 ·simp only[aC,bN,or_false] at m
  rcases m with rfl | rfl
  ·rw[h] at h1;cases h1
  ·rw[h] at h2;cases h2
 ·exact hm m
theorem SAt.Ug {S:Addr→Prop}{H H':Hp}{sr:Addr}{d:Ad}{b:ax}{q:SS} (A:SAt t S H sr d b q) (x:Ext (eN d q) H H') {a:Addr}{xs:List V} (h:H a=some (.lst xs)) (hm:a∉cS d q):H' a=some (.lst xs):=x a _ h (A.Zc h hm)
theorem SAt.Ue {S:Addr→Prop}{H H':Hp}{sr:Addr}{d:Ad}{b:ax}{q:SS} (A:SAt t S H sr d b q) (x:Ext (eN d q) H H') {a:Addr}{xs:List V} (h:H a=some (.tup xs)):H' a=some (.tup xs):=by
 refine x a _ h fun m=>?_
 obtain⟨_,h1,_⟩:=A.known
 obtain⟨_,h2,_⟩:=A.wait
 unfold eN at m
 rcases az.mp m with m | m
 ·simp only[aC,bN,or_false] at m
  rcases m with rfl | rfl
  ·rw[h] at h1;cases h1
  ·rw[h] at h2;cases h2
 ·obtain⟨zs,hz⟩:=A.there a m
  rw[h] at hz;cases hz
theorem SAt.V0 {S:Addr→Prop}{H H':Hp}{sr:Addr}{d:Ad}{b:ax}{q:SS} (A:SAt t S H sr d b q) (x:Ext (eN d q) H H') {v:List V}{e:List D} (h:bh S H v e):bh S H' v e:=
 iD (fun a xs h=>A.Ue x h) (fun a xs hs h=>A.Ug x h fun m=>A.ns a m hs) e v h
theorem Ib {H:Hp}{a:Addr}{xs:List V}{o:HO} (h:H a=some (.lst xs)) {v:List V}{e:List D} (hv:bh no H v e):bh no (upd H a o) v e:=hv.keep (Kp.put h (fun _ z=>by cases z) id)
theorem SAt.on {S:Addr→Prop}{H:Hp}{sr:Addr}{d:Ad}{b:ax}{q:SS} (A:SAt t S H sr d b q):SAt t (L2.on S H) H sr d b q:=
 { A with
   book:=A.book.on
   known:=let ⟨kvs,h,k⟩:=A.known;⟨kvs,h,k.imp fun v x z=>z.on⟩
   bx:=let ⟨ws,h,k⟩:=A.bx;⟨ws,h,k.on⟩
   ns:=fun a ha hs=>A.ns a ha hs.1 }
theorem GI.wait {S:Addr→Prop}{H:Hp}{sr:Addr}{d:Ad}{b:ax}{q0:SS}{f:Addr}{Si:Addr→Prop}{Hi:Hp}{q:SS}{fr:List a3} (G:GI t S H sr d b q0 f Si Hi q fr) (h16:b.length≤16):q.wait.length≤272:=by
 have:=sY (SO b.length) (q.wait.map (·.1)) G.sat.wk fun w hw=>Im (G.ki w hw).1
 rw[ae] at this
 have:=Je h16
 omega
def Ee (t:Adr):Sp:=fun vs H Q _=>Ex7 fun(S:Addr→Prop) (sr:Addr) (d:Ad) (b:ax) (q0:SS) (vw:V) (wt:a3)=>vs=[.ref sr,vw]∧SAt t S H sr d b q0∧(∀ a,S a→H a≠none)∧Dv S H vw (e9 wt)∧q0.bx=[]∧q0.dh=[]∧q0.wait=[]∧(∀ x∈q0.ready,x.2=[])∧
 cM b=true∧(∀ x∈b,Good x∧Few x)∧b.length≤16∧inB b wt∧look q0.known wt=none∧
 ∀ H' S' q',SAt t S' H' sr d b q'→(∀ a,S' a→nw S H a)→LI q' []→(∀ (i:Nat) (w:a3) (y:Way),q'.bx[i]?=some (w,y)→inB b w∧y∈eB b w)→(∀ w∈q'.wait.map (·.1),inB b w∧look q0.known w=none)→q'.bx.length≤50000→
   (∀ w,look q'.wait w≠none→inB b w∧∀ y∈eB b w,∃ i:Nat,q'.bx[i]?=some (w,y))→q'.known=q0.known→look q'.wait wt≠none→(∀ a∈cS d q',a∈cS d q0∨H a=none)→Ext (eN d q0) H H'→Q .non H'
theorem EA (T:Txt K mg t):cI P w K mg base CX0 6 t.ir t.jY ["self","want"] (Ee t):=by
 refine T.j7.ok lH (fun vs H Q E h=>by obtain⟨_,_,_,_,_,_,_,e,_⟩:=h;subst e;rfl) (fun cdv A outer s H vs Q E hr h=>?_)
 obtain⟨S,sr,d,b,q0,vw,wt,rfl,A,hSa,hvw,hw0,hl0,V5,hr0,hcl,hgf,h16,hin,hkn,k⟩:=h
 have hu:=AF hr
 refine⟨_,(ak (CG hu (bI (pv 0) rfl) (pv 1) (bX aq) rfl)
  (ak (bW (i:=2) lH.nd rfl (ba rfl) (bX (ah (pv 1) aq)))
  (aA (HE PassesOwn.never (bo ve (dH cj (by rfl) T.nO cb (ah (pv 2) aq)) aH (bL _)) (ak (bW (i:=3) lH.nd rfl (ba rfl) (TH aW PySem.F.slot_list_pop PySem.F.type_list_pop TY (pv 2)))
  (aA (iW PassesOwn.never rfl (eY (bG (Qg T) (hr.mono (by decide)) rfl T.SX T.vS.kp T.S1 .nil bw (ah (bI (pv 0) rfl) (ah (pv 3) aq)))) (cg (i:=4) lH.nd rfl (ba rfl)) (aA (cw (l5 aW i7 i6 vk (pv 2) (ah (cn (pv 0) T.bU T.E4 (CJ T) (hr.mono (by decide)) T.E7 .nil bw (ah (pv 3) (ah (pv 4) aq))) aq))))))))))),?_⟩
 obtain⟨dx,ho⟩:=A.obj
 obtain⟨kvw,hwd,hwt⟩:=A.wait
 obtain⟨pw,rfl,hpw⟩:=qe hvw
 refine⟨aT _,fun a0 ha0=>?_⟩
 have s0:=bg.new (o:=.lst []) ha0
 have A0:=A.same s0
 refine⟨_,rfl,sr,_,dx,_,_,rfl,s0 _ _ ho,T.bU,T.dS,rfl,_,rfl,d.wd,_,rfl,KD.t (s0 _ _ hwd) (s0 _ _ hpw) ?_,?_⟩
 ·rw[hwt.len,V5];exact small _ (by decide)
 have hS0:¬ S a0:=fun z=>hSa a0 z ha0
 have A1:=A0.Q6 (s0 _ _ hwd) (w:=wt) (a:=a0) (by rw[V5];rfl) aE (A.Rf ha0) hS0
 have ZH:=noD (o:=.dT (putK kvw (jK wt) (.ref a0))) (s0 _ _ hwd) (s0 _ _ hpw) (by intro _ z;cases z)
 have aci:d.wd∈eN d q0:=by simp[eN]
 have x1:Ext (eN d q0) H (upd (upd H a0 (.lst [])) d.wd (.dT (putK kvw (jK wt) (.ref a0)))):=(Ext.of_same s0).trans (Ext.put aci)
 have a01:upd (upd H a0 (.lst [])) d.wd (.dT (putK kvw (jK wt) (.ref a0))) a0=some (.lst []):=noD (s0 _ _ hwd) aE (by intro _ z;cases z)
 have n1:∀ a,upd (upd H a0 (.lst [])) d.wd (.dT (putK kvw (jK wt) (.ref a0))) a=none→H a=none:=fun a h=>dz _ (dz _ h)
 generalize upd (upd H a0 (.lst [])) d.wd (.dT (putK kvw (jK wt) (.ref a0)))=H1 at A1 ZH x1 a01 n1 ⊢
 refine⟨_,rfl,(by show 1≤sizeLine;decide),fun f hf=>?_⟩
 have s2:=bg.new (o:=.lst [.ref pw]) hf
 have A2:=A1.same s2
 have hf0:H f=none:=n1 f hf
 have eq1:q0.wait++[(wt,a0,[])]=[(wt,a0,[])]:=by rw[V5];rfl
 have hSf:¬ S f:=fun z=>hSa f z hf0
 have G0:GI t S H sr d b q0 f S (upd H1 f (.lst [.ref pw])) { q0 with wait:=q0.wait++[(wt,a0,[])] } [wt]:=by
  refine⟨A2,fun a ha z=>hSa a ha (n1 a (s2.non a z)),fun a ha=>.inl ha,?_,fun i w y h=>?_,fun w hw=>?_,rfl,⟨_,aE,.cons (.tup (s2 _ _ ZH) (.cons (.int _) (.cons (.int _) .nil))) .nil⟩,A1.Rf hf,hSf,fun u hu=>?_,fun x hx=>?_,fun a ha=>?_,x1.trans (Ext.of_same s2),fun a ha=>n1 a (s2.non a ha)⟩
  ·refine⟨by show q0.dh.length=q0.bx.length;rw[hl0,hw0];rfl,fun i w y h=>?_,fun u a l _ h i w y hi=>?_,fun u a l h i hi=>?_,fun i w y h=>?_,fun i w y h=>?_,fun i w y z h=>?_,fun n a r h=>?_⟩
   ·exact absurd h (by show q0.bx[i]?≠_;rw[hw0];simp)
   ·exact absurd hi (by show q0.bx[i]?≠_;rw[hw0];simp)
   ·have h:=oa h
    have h:(u,a,l)∈q0.wait++[(wt,a0,[])]:=h
    rw[eq1] at h
    obtain⟨_,h⟩:=aV (ag.mp h)
    obtain⟨_,rfl⟩:=aV h
    cases hi
   ·exact absurd h (by show q0.bx[i]?≠_;rw[hw0];simp)
   ·exact absurd h (by show q0.bx[i]?≠_;rw[hw0];simp)
   ·exact absurd h (by show q0.bx[i]?≠_;rw[hw0];simp)
   ·have h:q0.ready[n]?=some (a,r):=h
    have:r=[]:=hr0 _ (a7 h)
    subst this
    exact⟨pS,fun i hi=>by cases hi⟩
  ·exact absurd h (by show q0.bx[i]?≠_;rw[hw0];simp)
  ·have hw:w∈(q0.wait++[(wt,a0,[])]).map (fun x:a3×Addr×List Nat=>x.1):=hw
   rw[eq1] at hw
   rw[ag.mp hw]
   exact⟨hin,hkn⟩
  ·rw[ag.mp hu]
   refine gy.mpr ?_
   show wt∈(q0.wait++[(wt,a0,[])]).map (fun x:a3×Addr×List Nat=>x.1)
   rw[eq1]
   exact ag.mpr rfl
  ·have hx:x∈q0.wait++[(wt,a0,[])]:=hx
   rw[eq1] at hx
   rw[ag.mp hx]
   exact aT _
  ·unfold cS at ha ⊢
   dsimp only at ha
   rw[V5] at ha ⊢
   rcases az.mp ha with ha | ha
   ·exact .inl (aQ _ ha)
   ·rcases az.mp ha with ha | ha
    ·exact .inl (aO _ (aQ _ ha))
    ·rw[ag.mp ha]
     exact .inr ha0
 generalize hq1:({ q0 with wait:=q0.wait++[(wt,a0,[])] }:SS)=q1 at G0
 have XY:q1.wait=[(wt,a0,[])]:=by rw[← hq1];exact eq1
 have aco:q1.bx=[]:=by rw[← hq1];exact hw0
 generalize upd H1 f (.lst [.ref pw])=H2 at G0 ⊢
 refine⟨fun m σ Hi=>∃ x y Si q fr,σ=[some (.ref sr),some (.ref pw),some (.ref f),x,y]∧GI t S H sr d b q0 f Si Hi q fr∧(∀ w,look q.wait w≠none→w∈fr∨∀ y∈eB b w,∃ i:Nat,q.bx[i]?=some (w,y))∧q.bx.length+8 * fr.length≤8 * q.wait.length∧look q.wait wt≠none∧m=2 * (272 - q.wait.length)+fr.length,
  ⟨_,_,_,S,q1,[wt],rfl,G0,fun w hw=>.inl ?_,?_,?_,rfl⟩,?_⟩
 ·have:=gy.mp hw
  rw[XY] at this
  exact this
 ·rw[aco,XY]
  exact aB _
 ·refine gy.mpr ?_
  rw[XY]
  exact ag.mpr rfl
 rintro m σ Hi ⟨x,y,Si,q,fr,rfl,G,WS,acN,Zx,hm⟩
 obtain⟨xs,hfl,hxs⟩:=G.fl
 have hxl:xs.length=fr.length:=by rw[hxs.len,ae]
 refine⟨_,rfl,f,_,rfl,.inl (SqL.of hfl),_,_,rfl,rfl,_,rfl,?_⟩
 have hwl:=G.wait h16
 by_cases hfr:fr=[]
 ·dsimp only
  rw[if_neg (by rw[hxl,hfr];decide)]
  refine k Hi Si q G.sat G.sub G.li G.own G.ki (by omega) (fun w hw=>?_) G.known Zx G.mn G.ext
  have hwk:w∈q.wait.map (·.1):=gy.mp hw
  refine⟨(G.ki w hwk).1,?_⟩
  rcases WS w hw with h | h
  ·rw[hfr] at h;cases h
  ·exact h
 ·dsimp only
  have hfp:0 < fr.length:=List.length_pos_iff.mpr hfr
  rw[if_pos (by rw[hxl];exact decide_eq_true (by omega))]
  refine⟨_,fun σ' H' h=>h,?_⟩
  obtain⟨fr0,met,acG⟩:∃ fr0 met,fr=fr0++[met]:=⟨fr.dropLast,fr.getLast hfr,(List.dropLast_concat_getLast hfr).symm⟩
  subst acG
  have UA:(((fr0++[met]).map e9)[xs.length - 1]?)=some (e9 met):=by
   rw[hxl,au,bD,uS,aJ,cB (by rw[ae];exact aB _),ae,mZ]
   rfl
  obtain⟨vm,hvm,hdm⟩:=hxs.get' UA
  obtain⟨pm,rfl,hpm⟩:=qe hdm
  refine⟨_,rfl,.inl ⟨rfl,_,SqL.of hfl⟩,f,xs,_,rfl,rfl,hfl,hvm,?_⟩
  have B0:=G.sat.off (o:=.lst xs.dropLast) hfl G.fm G.fs
  have X0:upd Hi f (.lst xs.dropLast) pm=some (.tup ((jK met).map kV)):=by rw[aN (cu hpm hfl (by intro z;cases z))];exact hpm
  have Zt:bh no (upd Hi f (.lst xs.dropLast)) xs.dropLast (fr0.map e9):=by
   have h1:=Ib (o:=.lst xs.dropLast) hfl (hxs.take (xs.length - 1))
   rw[← List.dropLast_eq_take] at h1
   rw[hxl,au,bD,uS,aJ,List.take_left' (by rw[ae])] at h1
   exact h1
  have X9:upd Hi f (.lst xs.dropLast) f=some (.lst xs.dropLast):=aE
  have acR:∀ a,Si a→upd Hi f (.lst xs.dropLast) a≠none:=fun a ha=>by
   rw[aN (show a≠f from fun z=>G.fs (z▸ha))];exact G.al a ha
  have X4:∀ a,upd Hi f (.lst xs.dropLast) a=none→H a=none:=fun a ha=>G.non a (dz a ha)
  have ZY:Ext (eN d q0) H (upd Hi f (.lst xs.dropLast)):=fun c u e m=>by
   rw[aN (bf e hf0)];exact G.ext c u e m
  generalize upd Hi f (.lst xs.dropLast)=Hp at B0 X0 Zt X9 acR X4 ZY ⊢
  obtain⟨dx1,ho1⟩:=B0.obj
  have V9:=(G.ki met (gy.mp (G.fk met (aO _ (ag.mpr rfl))))).1
  have acL:Dv Si Hp (.ref pm) (e9 met):=.tup X0 (.cons (.int _) (.cons (.int _) .nil))
  refine⟨_,rfl,sr,_,dx1,_,_,rfl,ho1,T.bU,T.AN,rfl,_,rfl,Si,.ref d.l,.ref pm,b,met,rfl,B0.book,acL,V9,fun x hx=>(hgf x hx).1,fun v3 H3 s3 h3=>?_⟩
  obtain⟨wa,ys,rfl,hSw,hwa,hys⟩:=h3.wM
  have acd:ys.length=(eB b met).length:=by rw[hys.len,ae]
  obtain⟨hw8,hst⟩:=Yo (fun x hx=>(hgf x hx).2) V9
  refine⟨wa,rfl,⟨_,SqL.of hwa⟩,?_⟩
  have ZC:L2.on (nw Si Hp) H3 wa:=⟨hSw,by rw[hwa];exact fun z=>nomatch z⟩
  have UE:¬ L2.on (nw Si Hp) H3 f:=fun z=>z.1.elim G.fs fun e=>by rw[X9] at e;cases e
  refine mI (xs:=ys) (fun j σ Hj=>∃ x qj frj,σ=[some (.ref sr),some (.ref pw),some (.ref f),some (.ref pm),x]∧GI t S H sr d b q0 f (L2.on (nw Si Hp) H3) Hj qj frj∧Hj wa=some (.lst ys)∧bh (L2.on (nw Si Hp) H3) Hj ys ((eB b met).map kQ)∧Hj pm=some (.tup ((jK met).map kV))∧
   (∀ w,look qj.wait w≠none→w∈frj∨w=met∨∀ y∈eB b w,∃ i:Nat,qj.bx[i]?=some (w,y))∧(∀ y∈(eB b met).take j,∃ i:Nat,qj.bx[i]?=some (met,y))∧qj.bx.length+8 * frj.length+8≤8 * qj.wait.length+j∧look qj.wait wt≠none∧look qj.wait met≠none∧2 * (272 - qj.wait.length)+frj.length < m)
   ⟨_,q,fr0,rfl,?_,hwa,hys.on,s3 _ _ X0,?_,?_,?_,Zx,G.fk met (aO _ (ag.mpr rfl)),?_⟩ (fun i σ H' _ h=>let ⟨_,_,_,_,_,h,_⟩:=h;SqL.of h) ?_ ?_
  ·exact⟨(B0.nw s3).on,fun a ha=>ha.2,fun a ha=>ha.1.elim (G.sub a) fun e=>.inr (X4 a e),G.li,G.own,G.ki,G.known,⟨_,s3 _ _ X9,Zt.keep (Kp.of_same s3)⟩,G.fm,UE,fun u hu=>G.fk u (aQ _ hu),G.Ua,G.mn,ZY.trans (Ext.of_same s3),fun a ha=>X4 a (s3.non a ha)⟩
  ·intro w hw
   rcases WS w hw with h | h
   ·rcases az.mp h with h | h
    ·exact .inl h
    ·exact .inr (.inl (ag.mp h))
   ·exact .inr (.inr h)
  ·intro y hy
   rw[List.take_zero] at hy
   cases hy
  ·rw[au,bD] at acN
   omega
  ·rw[hm,au,bD]
   omega
  ·rintro j v σ Hj hj ⟨x',qj,frj,rfl,Gj,ZA,XT,XZ,hdj,hlj,hcj,wQ,Uw,hmj⟩
   have hjl:j < ys.length:=(aP.mp hj).1
   obtain⟨e1,he1,hv1⟩:=XT.get hj
   obtain⟨y1,hy1,rfl⟩:=cx he1
   obtain⟨dxj,hoj⟩:=Gj.sat.obj
   obtain⟨xsj,Wa,Zs⟩:=Gj.fl
   have adf:=Gj.wait h16
   have Ul:y1∈eB b met:=a7 hy1
   have acK:Dv (L2.on (nw Si Hp) H3) Hj (.ref pm) (e9 met):=.tup XZ (.cons (.int _) (.cons (.int _) .nil))
   refine⟨_,rfl,.inl ⟨rfl,_,SqL.of Wa⟩,_,rfl,sr,dxj,_,rfl,hoj,rfl,_,rfl,_,rfl,L2.on (nw Si Hp) H3,sr,d,b,qj,_,_,met,y1,rfl,Gj.sat,Gj.al,acK,hv1,Gj.li,Uw,hst y1 Ul,by omega,by omega,Gj.Ua,fun H4 q4 fr4 a4 xs4 A4 L4 O4 ha4 adm adl hx4 ZM ZL x4=>?_⟩
   have Lp:H4 f=some (.lst xsj):=Gj.sat.Ug x4 Wa Gj.fm
   have ZX:f∉cS d q4:=fun hm4=>by
    rcases ZM f hm4 with h | h
    ·exact Gj.sat.Zc Wa Gj.fm h
    ·rw[Wa] at h;cases h
   have V4:xs4.length=fr4.length:=by rw[hx4.len,ae]
   have ace:xsj.length=frj.length:=by rw[Zs.len,ae]
   have A5:=A4.off (o:=.lst (xsj++xs4)) Lp ZX UE
   have hk4:q4.wait.length=qj.wait.length+fr4.length:=by
    have:=congrArg ja O4.keys
    rw[au,ae,ae] at this
    exact this
   have hw4:q4.bx.length=qj.bx.length+1:=by rw[O4.bx,au,bD]
   have acC:∀ w∈q4.wait.map (·.1),inB b w∧look q0.known w=none:=fun w hw=>by
    rw[O4.keys] at hw
    rcases az.mp hw with hw | hw
    ·exact Gj.ki w hw
    ·obtain⟨h1,st,hs,e⟩:=O4.sub w hw
     rw[Gj.known] at h1
     rw[← e]
     exact⟨((HS hcl V9 y1 Ul).2 st hs).1,by rw[e];exact h1⟩
   have hup:∀ w,look qj.wait w≠none→look q4.wait w≠none:=fun w hw=>gy.mpr (by rw[O4.keys];exact aQ _ (gy.mp hw))
   have hold:∀ {i:Nat}{p:a3×Way},qj.bx[i]?=some p→q4.bx[i]?=some p:=fun {i p} h=>by
    rw[O4.bx,dB (aP.mp h).1];exact h
   have X5:q4.bx[qj.bx.length]?=some (met,y1):=by
    rw[O4.bx,cB (aB _),mZ];rfl
   have G5:GI t S H sr d b q0 f (L2.on (nw Si Hp) H3) (upd H4 f (.lst (xsj++xs4))) q4 (frj++fr4):=by
    refine⟨A5,fun a ha z=>?_,Gj.sub,L4,fun i w y h=>?_,acC,O4.known.trans Gj.known,⟨_,aE,?_⟩,ZX,UE,fun u hu=>?_,O4.Ua Gj.Ua,fun a ha=>?_,fun c u e m=>?_,fun a ha=>Gj.non a (ZL a (dz a ha))⟩
    ·exact Gj.al a ha (ZL a (dz a z))
    ·by_cases hi:i < qj.bx.length
     ·rw[O4.bx,dB hi] at h
      exact Gj.own i w y h
     ·rw[O4.bx,cB (by omega)] at h
      have hi0:i - qj.bx.length=0:=by
       have:=(aP.mp h).1
       rw[bD] at this
       omega
      rw[hi0] at h
      obtain⟨rfl,rfl⟩:=aV (aa h)
      exact⟨V9,Ul⟩
    ·rw[aJ]
     refine(Ib Lp ?_).append (Ib Lp hx4)
     exact Zs.keep fun a o h i=>by
      rcases i with i | ⟨zs,rfl⟩
      ·exact absurd i id
      ·exact Gj.sat.Ue x4 h
    ·rcases az.mp hu with hu | hu
     ·exact hup u (Gj.fk u hu)
     ·exact gy.mpr (by rw[O4.keys];exact aO _ hu)
    ·rcases ZM a ha with h | h
     ·unfold eN at h
      rcases az.mp h with h | h
      ·obtain⟨zs,hz⟩:=A4.there a ha
       obtain⟨_,h1,_⟩:=A4.known
       obtain⟨_,h2,_⟩:=A4.wait
       simp only[aC,bN,or_false] at h
       rcases h with rfl | rfl
       ·rw[hz] at h1;cases h1
       ·rw[hz] at h2;cases h2
      ·exact Gj.mn a h
     ·exact .inr (Gj.non a h)
    ·rw[aN (bf e hf0)]
     refine x4 c u (Gj.ext c u e m) fun mj=>?_
     unfold eN at mj
     rcases az.mp mj with mj | mj
     ·exact m (aQ _ mj)
     ·rcases Gj.mn c mj with z | z
      ·exact m (aO _ z)
      ·rw[e] at z;cases z
   have adj:=A4.wk
   refine⟨f,a4,xsj,xs4,rfl,rfl,Lp,ha4,?_,_,q4,frj++fr4,rfl,G5,?_,?_,?_,?_,?_,?_,hup wt wQ,hup met Uw,?_⟩
   ·have:=G5.wait h16
    refine jd (small _ ?_)
    rw[V4,ace]
    omega
   ·rw[aN (show wa≠f from fun z=>UE (z▸ZC))]
    exact Gj.sat.Ug x4 ZA fun m=>Gj.sat.ns wa m ZC
   ·exact(Gj.sat.V0 x4 XT).keep (Kp.put Lp (fun _ z=>by cases z) UE)
   ·have:=Gj.sat.Ue x4 XZ
    rw[aN (cu this Lp (by intro z;cases z))]
    exact this
   ·intro w hw
    have hw':=gy.mp hw
    rw[O4.keys] at hw'
    rcases az.mp hw' with hw' | hw'
    ·rcases hdj w (gy.mpr hw') with h | h | h
     ·exact .inl (aQ _ h)
     ·exact .inr (.inl h)
     ·exact .inr (.inr fun y hy=>let ⟨i,hi⟩:=h y hy;⟨i,hold hi⟩)
    ·exact .inl (aO _ hw')
   ·intro y hy
    rw[cV hy1] at hy
    rcases az.mp hy with hy | hy
    ·obtain⟨i,hi⟩:=hlj y hy
     exact⟨i,hold hi⟩
    ·rw[ag.mp hy]
     exact⟨_,X5⟩
   ·rw[hw4,hk4,au]
    omega
   ·have:=G5.wait h16
    rw[hk4] at this ⊢
    rw[au]
    omega
  ·rintro σ Hj ⟨x',qj,frj,rfl,Gj,ZA,XT,XZ,hdj,hlj,hcj,wQ,Uw,hmj⟩
   refine⟨_,hmj,_,_,_,qj,frj,rfl,Gj,fun w hw=>?_,by omega,wQ,rfl⟩
   rcases hdj w hw with h | h | h
   ·exact .inl h
   ·rw[h]
    rw[acd,cz] at hlj
    exact .inr hlj
   ·exact .inr h
end
end U
namespace Ways
open Kp190 KpFix
theorem OW {b r:Book}{n:Nat} (h:n < b.length):form (b++r) n=form b n:=by
 unfold form
 rw[cf,cf,dB h]
theorem Rm {b:Book} (r:Book) {w:a3} (h:inB b w):inB (b++r) w:=by
 obtain⟨⟨h0,h1⟩,h2⟩:=h
 have:b.length≤(b++r).length:=by rw[au];exact Nat.le_add_right _ _
 exact⟨⟨h0,by omega⟩,h2.imp id fun h=>⟨h.1,by omega⟩⟩
theorem PH {b:Book} (r:Book) {w:a3} (h:inB b w):eB (b++r) w=eB b w:=by
 obtain⟨⟨h0,h1⟩,h2⟩:=h
 unfold eB
 rw[OW h1]
 by_cases e:w.2=-1
 ·rw[if_pos e,if_pos e]
 ·rw[if_neg e,if_neg e,OW (h2.resolve_left e).2]
theorem aap {b r:Book} (hc:closed b=true) (hc':closed (b++r)=true) (hn':∀ x∈b++r,Ku x) {w:a3} (hw:inB b w):KS b w=KS (b++r) w:=
 (YD hc).unique (fun w h=>Nm hc (fun x hx=>hn' x (aQ _ hx)) h) (fun w h=>by rw[Nm hc' hn' (Rm r h),PH r h]) w hw
theorem Nl (b:Book) (w:a3) (z:Nat×Row) (e:KS b w=some z):z.2.length+1≤3 * z.1∧z.1≤200:=by
 unfold KS at e
 split at e
 ·exact⟨qR b _ z e,(oe b _ z e).2⟩
 ·unfold pair at e
  exact⟨uY b _ z e,(rg b _ z e).2⟩
end Ways
namespace U
open PySem PySem.Spec PyProof.Rows L2
open PySem.W (Codec)
open Ways KpFix
section
variable {P:Program}{w:World}{K:ai}{mg:Str→Option Value}{base:Heap}{t:Adr}
theorem Good.Zf:∀ {x:cp},Good x→Ku x
 | .num _ _,_=>trivial
 | .text _,_=>trivial
 | .list _ _ _,h=>h.1
 | .record _,h=>h.2
 | .choice _,h=>h.2
theorem Good.few:∀ {x:cp},Good x→Few x
 | .num _ _,_=>trivial
 | .text _,_=>trivial
 | .list _ _ _,h=>h
 | .record _,h=>h.1
 | .choice _,h=>h.1
theorem KOk.up {b r:ax}{ks:Known} (h:KOk b ks) (hc:cM b=true) (hc':cM (b++r)=true) (hn':∀ x∈b++r,Ku x):KOk (b++r) ks:=
 ⟨h.nd,fun w hw=>Rm r (h.ki w hw),fun w x e=>by rw[h.eq w x e];exact aap hc hc' hn' (h.ki w (C4 e))⟩
structure lW (t:Adr) (S:Addr→Prop) (H:Hp) (le l kd:Addr) (b:ax):Prop where
 obj:∃ dx,H le=some (.ins t.iM dx [("told",.ref l),("known",.ref kd)])
 tab:∃ kvs ks b0 r,H kd=some (.dT kvs)∧TabAt (fun v x=>Dv S H v (knD x)) kvs ks∧b=b0++r∧cM b0=true∧KOk b0 ks
 al:∀ a,S a→H a≠none
 nl:¬ S l
theorem lW.tell {S:Addr→Prop}{H:Hp}{le l kd:Addr}{b:ax} (h:lW t S H le l kd b) (x:ax):lW t S H le l kd (b++x):=
 ⟨h.obj,let ⟨kvs,ks,b0,r,h1,h2,h3,h4,h5⟩:=h.tab;⟨kvs,ks,b0,r++x,h1,h2,by rw[h3,bK],h4,h5⟩,h.al,h.nl⟩
theorem lW.ext {S:Addr→Prop}{H H':Hp}{le l kd:Addr}{b:ax} (h:lW t S H le l kd b) {M:List Addr} (x:Ext M H H') (h1:le∉M) (h2:kd∉M) (h3:∀ m∈M,¬ S m∧∀ xs,H m≠some (.tup xs)):lW t S H' le l kd b:=by
 obtain⟨dx,ho⟩:=h.obj
 obtain⟨kvs,ks,b0,r,k1,k2,k3,k4,k5⟩:=h.tab
 have kp:=Kp.sV (S:=S) x h3
 refine⟨⟨dx,x _ _ ho h1⟩,⟨kvs,ks,b0,r,x _ _ k1 h2,k2.imp fun v x z=>z.keep kp,k3,k4,k5⟩,fun a ha=>?_,h.nl⟩
 cases e:H a with
 | none=>exact absurd e (h.al a ha)
 | some o=>rw[kp a o e (.inl ha)];exact fun z=>nomatch z
def JL (t:Adr):Sp:=fun vs H Q _=>Ex3 fun(le dx l:Addr)=>vs=[.ref le,.ref l]∧H le=some (.ins t.iM dx [])∧∀ H' kd,lW t no H' le l kd []→H kd=none→Ext [le] H H'→Q .non H'
theorem KOk.nil:KOk [] []:=⟨pS,fun w h=>(by cases h),fun w x e=>(by cases e)⟩
theorem AB (T:Txt K mg t):cI P w K mg base CX0 1 t.lR t.ou ["self","told"] (JL t):=by
 refine T.si.ok JS (fun vs H Q E h=>by obtain⟨_,_,_,e,_⟩:=h;subst e;rfl) (fun cdv A outer s H vs Q E hr h=>?_)
 obtain⟨le,dx,l,rfl,ho,k⟩:=h
 refine⟨_,(ak (gm (pv 0) (pv 1) rfl)
  (aA (gm (pv 0) HI rfl))),?_⟩
 refine⟨_,rfl,_,rfl,le,_,dx,_,rfl,ho,T.oP,T.Dy,(by show 0 < 1000;decide),?_⟩
 refine fun kd hkd=>?_
 refine⟨_,rfl,le,_,dx,_,rfl,bg.new hkd _ _ aE,T.oP,T.mS,(by show 1 < 1000;decide),?_⟩
 have UC:H kd=none:=dz _ hkd
 have nl:le≠kd:=bf ho UC
 refine k _ kd ⟨⟨dx,aE⟩,⟨[],[],[],[],by rw[aN (br nl),aE],.nil,rfl,rfl,KOk.nil⟩,fun a ha=>absurd ha id,id⟩ UC ?_
 exact((Ext.put (by simp)).trans (Ext.new hkd)).trans (Ext.put (by simp))
theorem TR {S:Addr→Prop}{H:Hp}{l:Addr}{vs:List V}{x:bR}{v:V} (hl:H l=some (.lst vs)) (hv:∀ ns:List Int,vs≠ns.map V.int) (h:Dv S H v (knD x)):Dv (fun a=>S a∧a≠l) H v (knD x):=by
 cases x with
 | none=>obtain rfl:=h.VT;exact .non
 | some z=>
   obtain⟨a,xs,rfl,ha,hx⟩:=h.tupI
   obtain⟨v1,us,rfl,h1,hx⟩:=hx.fB
   obtain⟨v2,us,rfl,h2,hx⟩:=hx.fB
   obtain rfl:=hx.xK
   obtain rfl:=h1.z5
   obtain⟨c,rfl,hs,hc⟩:=Dv.lint h2
   refine .tup ha (.cons (.int _) (.cons (.lst ⟨hs,fun e=>?_⟩ hc (bh.ints _)) .nil))
   subst e
   rw[hl] at hc
   injection hc with hc
   injection hc with hc
   exact hv _ hc
def yt (t:Adr):Sp:=fun vs H Q _=>Ex7 fun(S:Addr→Prop) (le l kd:Addr) (b:ax) (vw:V) (wt:a3)=>vs=[.ref le,vw]∧lW t S H le l kd b∧w8 H l b∧Dv no H vw (e9 wt)∧inB b wt∧cM b=true∧(∀ x∈b,Good x)∧b.length≤16∧
 ∀ H' S' v,lW t S' H' le l kd b→(∀ a,S' a→nw S H a)→Dv S' H' v (knD (KS b wt))→Ext [kd] H H'→Q v H'
theorem qv (T:Txt K mg t):cI P w K mg base CX0 7 t.el t.fS ["self","want"] (yt t):=by
 refine T.f9.ok qh (fun vs H Q E h=>by obtain⟨_,_,_,_,_,_,_,e,_⟩:=h;subst e;rfl) (fun cdv A outer s H vs Q E hr h=>?_)
 obtain⟨S,le,l,kd,b,vw,wt,rfl,A,hB,hvw,hin,hcl,hg,h16,k⟩:=h
 have hu:=AF hr
 refine⟨_,(ak (b9 (Ew (vc hu (pv 1) (bI (pv 0) rfl))) (ak (bW (i:=2) qh.nd rfl (ba rfl) (zf T.Vl (HX T) (hr.mono (by decide)) rfl T.Vp T.KI .nil bw (ah (bI (pv 0) rfl) (ah (bI (pv 0) rfl) aq))))
  (ak (cw (cn (pv 2) T.bU T.Gx (EA T) (hr.mono (by decide)) T.GG .nil bw (ah (pv 1) aq)))
  (aA (cw (dc (pv 2) T.bU T.Aa (yM T) (hr.mono (by decide)) T.Aq .nil bw))))) bp)
  (aA (a6 (wH hu (bI (pv 0) rfl) (pv 1) (fun _ _=>rfl))))),?_⟩
 obtain⟨dx,ho⟩:=A.obj
 obtain⟨kvs,ks,b0,r,hkd,hkt,rfl,hc0,hK0⟩:=A.tab
 have hK:KOk (b0++r) ks:=hK0.up hc0 hcl fun x hx=>(hg x hx).Zf
 obtain⟨pw,rfl,hpw⟩:=qe hvw
 refine⟨_,rfl,_,rfl,le,_,dx,_,_,rfl,ho,T.oP,T.mS,rfl,kd,_,rfl,oO.t hkd hpw,_,rfl,?_⟩
 rw[hkt.has wt]
 cases hk:look ks wt with
 | some x=>
   obtain rfl:=hK.eq wt x hk
   obtain⟨v,hv,hdv⟩:=hkt.get hk
   refine z0 ⟨_,rfl,le,_,dx,_,_,rfl,ho,T.oP,T.mS,rfl,_,rfl,kd,v,rfl,?_,?_⟩
   ·rw[← hv];exact oO.t hkd hpw
   ·exact k H S v ⟨⟨dx,ho⟩,⟨kvs,ks,b0++r,[],hkd,hkt,(cq _).symm,hcl,hK⟩,A.al,A.nl⟩ (fun a ha=>.inl ha) hdv (Ext.refl _ _)
 | none=>
   refine uL ?_
   obtain⟨bs,hl,hbs⟩:=hB
   refine⟨_,rfl,le,_,dx,_,_,rfl,ho,T.oP,T.Dy,rfl,_,rfl,le,_,dx,_,_,rfl,ho,T.oP,T.mS,rfl,fun sr dx1 hsr UG hne=>?_⟩
   have s1:bg H (upd (upd H dx1 (.own sr)) sr (.ins t.bM dx1 [])):=(bg.new UG).trans (bg.new (by rw[aN (br hne)];exact hsr))
   have n1:∀ a,upd (upd H dx1 (.own sr)) sr (.ins t.bM dx1 []) a=none→H a=none:=fun a h=>dz a (dz a h)
   have o1:upd (upd H dx1 (.own sr)) sr (.ins t.bM dx1 []) sr=some (.ins t.bM dx1 []):=aE
   generalize upd (upd H dx1 (.own sr)) sr (.ins t.bM dx1 [])=H1 at s1 n1 o1 ⊢
   have Us:H sr=none:=hsr
   have hbd:Dv (fun a=>S a∨a=l) H (.ref l) (Pd (b0++r)):=.lst (.inr rfl) hl (hbs.sub fun a h=>absurd h id)
   refine⟨fun a=>S a∨a=l,sr,dx1,l,kd,b0++r,kvs,ks,rfl,o1,fun a ha z=>?_,hbd.keep (Kp.of_same s1),s1 _ _ hkd,hkt.imp fun v x z=>(z.sub fun a h=>.inl h).keep (Kp.of_same s1),fun H2 d q dl dk A2 qk qw ql qt qr mn wn x2=>⟨rfl,?_⟩⟩
   ·rcases ha with ha | rfl
    ·exact A.al a ha (n1 a z)
    ·have:=n1 _ z
     rw[hl] at this
     cases this
   have al2:∀ a,(S a∨a=l)→H2 a≠none:=fun a ha z=>by
    have ne:a≠sr:=fun e=>by
     rcases ha with ha | ha
     ·exact A.al a ha (by rw[e];exact Us)
     ·rw[e] at ha;rw[ha,hl] at Us;cases Us
    cases e:H a with
    | none=>
      rcases ha with ha | rfl
      ·exact A.al a ha e
      ·rw[hl] at e;cases e
    | some o=>rw[x2 a o (s1 _ _ e) (by simpa using ne)] at z;cases z
   have acp:H2 pw=some (.tup ((jK wt).map kV)):=x2 _ _ (s1 _ _ hpw) (by simpa using bf hpw Us)
   obtain⟨dx2,ho2⟩:=A2.obj
   refine⟨_,rfl,sr,dx2,_,rfl,ho2,rfl,_,rfl,fun a=>S a∨a=l,sr,d,b0++r,q,_,wt,rfl,A2,al2,.tup acp (.cons (.int _) (.cons (.int _) .nil)),qw,ql,qt,qr,hcl,fun x hx=>⟨hg x hx,(hg x hx).few⟩,h16,hin,by rw[qk];exact hk,fun H3 S3 q3 A3 Td L3 TM ki3 wb3 Z3 kn3 hw3 mn3 x3=>?_⟩
   have Tg:∀ c o,H c=some o→H2 c=some o:=fun c o e=>x2 c o (s1 _ _ e) (by simpa using bf e Us)
   have nn:∀ {c o},H c=some o→H1 c≠none:=fun e=>by rw[s1 _ _ e];exact fun z=>nomatch z
   have WE:∀ c o,H c=some o→c≠kd→H3 c=some o:=fun c o e ne=>x3 c o (Tg c o e) fun m=>by
    unfold eN at m
    rcases az.mp m with m | m
    ·simp only[aC,bN,or_false] at m
     rcases m with m | m
     ·exact ne (m.trans dk)
     ·rw[m] at e;exact nn e wn
    ·exact nn e (mn c m)
   have acD:∃ o,H3 kd=some o:=by
    obtain⟨z,h,_⟩:=A3.known
    rw[dk] at h
    exact⟨_,h⟩
   have YX:∀ {H4:Hp},Ext (eN d q3) H3 H4→∀ c o,H c=some o→c≠kd→H4 c=some o:=fun x4 c o e ne=>x4 c o (WE c o e ne) fun m=>by
    unfold eN at m
    rcases az.mp m with m | m
    ·simp only[aC,bN,or_false] at m
     rcases m with m | m
     ·exact ne (m.trans dk)
     ·rw[m] at e;exact nn e wn
    ·rcases mn3 c m with m | m
     ·exact nn e (mn c m)
     ·rw[Tg c o e] at m;cases m
   obtain⟨dx3,ho3⟩:=A3.obj
   have hKq:q3.known=ks:=kn3.trans qk
   have J3:JI (b0++r) q3 1:=by
    have hno:∀ w,look q3.wait w≠none→look q3.known w=none:=fun w hw=>by
     rw[kn3]
     exact(ki3 w (gy.mp hw)).2
    refine⟨fun i w y h=>⟨HS hcl (TM i w y h).1 y (TM i w y h).2,TM i w y h⟩,fun w z h=>?_,fun w z hw h=>?_,fun i w y z h hv hz=>?_,fun w x h hw=>?_,fun w x h _=>hK.eq w x (by rw[← hKq];exact h)⟩
    ·have:=wZ h
     rw[hKq] at this
     exact Nl (b0++r) w z (hK.eq w _ this).symm
    ·have:=wZ h
     rw[hno w hw] at this
     cases this
    ·have h1:=(DZ hv).1
     have h2:=(HS hcl (TM i w y h).1 y (TM i w y h).2).1.1
     omega
    ·rw[hno w hw] at h
     cases h
   have B3:SB (b0++r) q3:=⟨by rw[hKq];exact hK.nd,by rw[hKq];exact hK.ki,fun w hw=>(ki3 w hw).1,wb3,h16⟩
   refine⟨_,rfl,sr,dx3,_,rfl,ho3,rfl,S3,sr,d,b0++r,q3,rfl,A3,L3,J3,B3,hcl,fun x hx=>(hg x hx).Zf,Z3,fun H4 ab8 ks4 X6 ht4 hK4 acM x4=>?_⟩
   have st4:=YX x4
   rw[dk] at X6
   have nek:le≠kd:=cu ho hkd (by intro z;cases z)
   have nlk:l≠kd:=cu hl hkd (by intro z;cases z)
   have npk:pw≠kd:=cu hpw hkd (by intro z;cases z)
   have hbi:∀ ns:List Int,bs≠ns.map V.int:=fun ns e=>by
    cases hb:b0++r with
    | nil=>
      rw[hb] at hin
      exact absurd hin.1.2 (Nat.not_lt_zero _)
    | cons x b'=>
      rw[hb,aU] at hbs
      obtain⟨v,us,rfl,h1,_⟩:=hbs.fB
      cases ns with
      | nil=>cases e
      | cons n ns=>
        injection e with e1 _
        subst e1
        cases x<;>cases h1
   have fin:∀ {v:V}{x:bR},Dv (nw S3 H3) H4 v (knD x)→Dv (fun a=>L2.on (nw S3 H3) H4 a∧a≠l) H4 v (knD x):=fun z=>TR (st4 l _ hl nlk) hbi z.on
   cases hx4:look ks4 wt with
   | none=>exact absurd hx4 (acM wt hw3)
   | some x=>
     obtain rfl:=hK4.eq wt x hx4
     obtain⟨v,hv,hdv⟩:=ht4.get hx4
     have ZO:=st4 le _ ho nek
     refine⟨_,rfl,le,_,dx,_,_,rfl,ZO,T.oP,T.mS,rfl,_,rfl,kd,v,rfl,?_,?_⟩
     ·rw[← hv];exact oO.t X6 (st4 pw _ hpw npk)
     ·refine k H4 (fun a=>L2.on (nw S3 H3) H4 a∧a≠l) v ⟨⟨dx,ZO⟩,⟨ab8,ks4,b0++r,[],X6,ht4.imp fun v x z=>fin z,(cq _).symm,hcl,hK4⟩,fun a ha=>ha.1.2,fun ha=>ha.2 rfl⟩ (fun a ha=>?_) (fin hdv) (fun c o e m=>st4 c o e (by simpa using m))
      rcases ha.1.1 with h | h
      ·rcases Td a h with (h | h) | h
       ·exact .inl h
       ·exact absurd h ha.2
       ·cases e:H a with
        | none=>exact .inr e
        | some o=>rw[Tg a o e] at h;cases h
      ·cases e:H a with
       | none=>exact .inr e
       | some o=>
         by_cases ek:a=kd
         ·subst ek
          obtain⟨o',h'⟩:=acD
          rw[h'] at h;cases h
         ·rw[WE a o e ek] at h;cases h
end
end U
namespace L2
open PySem PySem.Spec PyProof.Rows
def CX1 (P:Program) (w:World) (C:Addr):CXT:=fun outer H s E e s'=>∃ ea a0 H' B,e=.ref ea∧s'.os=s.os∧AllBare s'.gens∧Heap.FlyingW B outer ea (.ref C) a0 s'.heap∧HOk P w H' B∧
 (∀ b o,s.heap.get? b=some o→H b=none→b∉frs outer→B.get? b=some o)∧(∀ b o,s.heap.get? b=some o→b∉frs outer→∃ o',B.get? b=some o')∧Un (frs outer) [] H H' s.heap s'.heap∧E (.ref C) none H'
section
variable {P:Program}{w:World}{C:Addr}{K:ai}{mg:Str→Option Value}{base:Heap}{N:List Str}{qual:Str}{scope:Scope}{f:Addr}{cd:Value}{A:Around}{outer:List Env}{s:Shared}{H:Hp}{E:XK}
theorem GO {b:Addr}{o:Obj}{pins:List (Addr×Obj)}{σ:St}{H2:Hp}{s2:Shared} (I:Inv (tq (CX1 P w C) P w K mg base N qual scope f cd A outer s H E) pins σ H2 s2) (e:s.heap.get? b=some o) (n:b∉frs outer):b∉frs (envOfC qual scope s.heap.objs.size f cd::outer):=fun z=>by
 rcases aC.mp (I.LY b z) with z | z
 ·exact absurd (Heap.lt_size e) (by rw[z];exact hG _)
 ·exact n z
theorem US {b:Addr} (n:b∈frs outer):b∈frs (envOfC qual scope s.heap.objs.size f cd::outer):=aG _ n
theorem qp:Passes (CX1 P w C) (tq (CX1 P w C) P w K mg base N qual scope f cd A outer s H E) E:=by
 intro pins σ H2 s2 e s' I hx
 obtain⟨ea,a0,H',B,rfl,hos,hba,hfl,hok,hk,ht,un,hE⟩:=hx
 show wpAny _ _ (leaving _ (.ref ea)) _ _ s'
 refine wpAny_leaves_onW (L:=s.heap.objs.size) I.ok.frames rfl hfl fun h' fl' up=>?_
 have keep:∀ b o,s.heap.get? b=some o→H b=none→b∉frs outer→B.get? b=some o:=fun b o q n hb=>hk b o (I.base.keep b o q n hb (by simp[tq])) (I.base.free b o q n (by simp[tq])) (GO I q hb)
 have there:∀ b o,s.heap.get? b=some o→b∉frs outer→∃ o',B.get? b=some o':=fun b o q hb=>by
  obtain⟨o1,e1⟩:=I.base.there b o q (by simp[tq])
  exact ht b o1 e1 (GO I q hb)
 refine⟨ea,a0,H',B,rfl,hos.trans I.os,hba,fl',hok,keep,there,⟨fun b o q n hb _=>fl'.1 b o (keep b o q n hb),fun b o q n hb _=>?_,fun b o q n _=>?_,fun b o q _=>?_,fun b xs q=>un.D2 b xs (I.base.D2 b xs q),fun b o u q=>un.BG b o u (I.base.BG b o u q),fun b ps q=>?_⟩,hE⟩
 ·obtain⟨sl,e1⟩:=I.base.slot b o q n hb (by simp[tq])
  obtain⟨sl2,e2⟩:=un.any e1 (I.base.free b o q n (by simp[tq])) (by simp)
  obtain⟨_,o3,h3,hnf⟩:=hfl.2.2.1.mem (US hb)
  rw[e2] at h3
  cases h3
  obtain⟨sl3,e3⟩:=up b _ e2 hnf
  exact⟨sl3,e3⟩
 ·obtain⟨o1,e1⟩:=I.base.there b o q (by simp[tq])
  exact un.free b o1 e1 (I.base.free b o q n (by simp[tq])) (by simp)
 ·by_cases hb:b∈frs outer
  ·obtain⟨_,o1,e1,_⟩:=fl'.2.2.1.mem hb
   exact⟨o1,e1⟩
  ·obtain⟨o1,e1⟩:=there b o q hb
   exact⟨o1,fl'.1 b o1 e1⟩
 ·obtain⟨m1,e1⟩:=I.base.D6 b ps q
  obtain⟨m2,e2⟩:=un.D6 b _ e1
  exact⟨m1++m2,by rw[e2,Array.append_assoc]⟩
theorem VO:PassesOwn (model P w) (A.deeper (envOfC qual scope s.heap.objs.size f cd)) (envOfC qual scope s.heap.objs.size f cd) (tq (CX1 P w C) P w K mg base N qual scope f cd A outer s H E).xe:=PassesOwn.leaving
theorem LB {h:Heap}{bmB:List Value}{newId:String} (X:K.In h) (q:qK K C bmB newId=true):∃ bm N nm q bs hdct sn sub ab col dd k0 k1 k2 k3 k5 mN,h.get? C=some (excClassObj nm q C N bs bm hdct sn sub ab col dd k0 k1 k2 k3 k5 newId)∧h.Ns N mN∧mN "__init__"=none∧OwnTail h bmB bm:=by
 rw[qK] at q
 split at q<;>try exact absurd q aZ
 rename_i own c sl at1
 split at q<;>try exact absurd q aZ
 rename_i C1 up s0 s1 s2 s3 m s5 em es
 simp only[beq_iff_eq,Bool.not_eq_true',a5] at q
 obtain⟨⟨⟨⟨⟨e1,e2⟩,e3⟩,e4⟩,e5⟩,e6⟩:=q
 subst e1
 subst e2
 cases c
 dsimp only at em e3 e5 e6
 subst em
 subst e3
 obtain rfl:sl=#[s0,s1,s2,s3,some (.builtin m),s5]:=by
  cases sl
  exact congrArg Array.mk es
 exact⟨up,_,_,_,_,_,_,_,_,_,own,s0,s1,s2,s3,s5,_,X _ _ at1,.of_isNs (PySem.W.isNs_of_in X e5),PySem.W.nsMap_none_of_in X e5 e6,PySem.W.tail_of_in X e4⟩
abbrev GX:List Value:=[.type "ValueError",.type "Exception",.type "BaseException",.type "object"]
def Xe (C:Addr) (E:XK):TS:=fun _ _ H=>E (.ref C) none H
theorem sP {x:Str}{m:Str}{j:Nat}{np sp vE pos:Pos} (hg:Gl (tq (CX1 P w C) P w K mg base N qual scope f cd A outer s H E) x) (hm:mg x=some (.ref C)) (hq:qK K C GX "ValueError.__new__"=true) (hd:(x == ("__debug__" :Str))=false:=by decide):
 PS (tq (CX1 P w C) P w K mg base N qual scope f cd A outer s H E) (.Raise (some (.Call (.Name x np) [.Constant (.str m) j sp] [] vE)) none pos) (Xe C E):=by
 intro pins s2 σ H2 D I h
 obtain⟨tl,Nn,nm,q,bs,hdct,sn,sub,ab,col,dd,k0,k1,k2,k3,k5,mN,hC,hN,hni,T⟩:=LB I.kIn hq
 refine wpAny_Raise_call_subT (C:=C) (nm:=nm) (q:=q) (N:=Nn) (bs:=bs) (bm:=tl) (hdct:=hdct) (sn:=sn) (sub:=sub) (ab:=ab) (col:=col) (dd:=dd) (k0:=k0) (k1:=k1) (k2:=k2) (k3:=k3) (k5:=k5)
  tP (mN:=mN) (T.hasType tP.hasBase) (I.ok.hd rfl) rfl hni (C8 I hg hm ⟨rfl,?_⟩ hd)
 refine Calls.evalArgs_plain (Calls.spliced_cons (Calls.Constant_str (pos:=sp) (k:=j) (Calls.spliced_nil ⟨rfl,by show 1≤sizeLine;decide,hC,hN,T,fun h' e hx=>?_⟩)))
 have J:=I
 show wpAny _ _ (leaving _ (.ref e)) _ _ _
 have hin:∀ env∈(envOfC qual scope s.heap.objs.size f cd::outer),∀ b,env.frame=some b→b∈frs (envOfC qual scope s.heap.objs.size f cd::outer):=fun env he b hb=>oS.mpr ⟨env,he,hb⟩
 have hfr:s2.heap.FunFrames base (envOfC qual scope s.heap.objs.size f cd::outer):=I.stack
 refine wpAny_leaves_madeW (base:=xW s2.heap (frs (envOfC qual scope s.heap.objs.size f cd::outer))) (L:=s.heap.objs.size) I.ok.frames rfl (fun b o q=>PySem.W.of_hideAll _ q) (PySem.W.funFrames_hide hfr hin) hx fun h2 t fl _ _ up=>?_
 have keep:∀ b o,s.heap.get? b=some o→H b=none→b∉frs outer→(xW s2.heap (frs (envOfC qual scope s.heap.objs.size f cd::outer))).get? b=some o:=fun b o q n hb=>sk _ (I.base.keep b o q n hb (by simp[tq])) (GO I q hb)
 have there:∀ b o,s.heap.get? b=some o→b∉frs outer→∃ o',(xW s2.heap (frs (envOfC qual scope s.heap.objs.size f cd::outer))).get? b=some o':=fun b o q hb=>by
  obtain⟨o1,e1⟩:=I.base.there b o q (by simp[tq])
  exact⟨o1,sk _ e1 (GO I q hb)⟩
 refine⟨e,.ref t,H2,_,rfl,I.os,I.bare,fl,fun a o e=>?_,keep,there,⟨fun b o q n hb _=>fl.1 b o (keep b o q n hb),fun b o q n hb _=>?_,fun b o q n _=>I.base.free b o q n (by simp[tq]),fun b o q _=>?_,I.base.D2,I.base.BG,I.base.D6⟩,h⟩
 ·refine(I.hok a o e).L0 (fun b u hb q=>sk _ q fun z=>?_) (fun _ q=>q) fun _ _ q=>q
  have hf:=I.LZ b z
  rcases hb with rfl | hb
  ·rw[e] at hf;cases hf
  ·rw[hb] at hf;cases hf
 ·obtain⟨sl,e1⟩:=I.base.slot b o q n hb (by simp[tq])
  obtain⟨_,o3,h3,hnf⟩:=hfr.mem (US hb)
  rw[e1] at h3
  cases h3
  obtain⟨sl3,e3⟩:=up b _ (hx.keeps _ _ e1) hnf
  exact⟨sl3,e3⟩
 ·by_cases hb:b∈frs outer
  ·obtain⟨_,o1,e1,_⟩:=fl.2.2.1.mem hb
   exact⟨o1,e1⟩
  ·obtain⟨o1,e1⟩:=there b o q hb
   exact⟨o1,fl.1 b o1 e1⟩
end
end L2
namespace L2
open PySem PySem.Spec PyProof.Rows
section
theorem WB {B h h':Heap}{outer:List Env}{ea:Addr}{c a0:Value}{H H':Hp}{h0:Heap} (un:Un (frs outer) [] H H' h0 h) (fl:Heap.FlyingW B outer ea c a0 h) (keep:∀ b o,h0.get? b=some o→H b=none→b∉frs outer→B.get? b=some o) (there:∀ b o,h0.get? b=some o→b∉frs outer→∃ o',B.get? b=some o')
 (fl':Heap.FlyingW B outer ea c a0 h') (up:h.UpToSlots h'):Un (frs outer) [] H H' h0 h':=by
 refine⟨fun b o q n hb _=>fl'.1 b o (keep b o q n hb),fun b o q n hb _=>?_,un.free,fun b o q _=>?_,un.D2,un.BG,un.D6⟩
 ·obtain⟨sl2,e2⟩:=un.any q n (by simp)
  obtain⟨_,o3,h3,hnf⟩:=fl.2.2.1.mem hb
  rw[e2] at h3
  cases h3
  obtain⟨sl3,e3⟩:=up b _ e2 hnf
  exact⟨sl3,e3⟩
 ·by_cases hb:b∈frs outer
  ·obtain⟨_,o1,e1,_⟩:=fl'.2.2.1.mem hb
   exact⟨o1,e1⟩
  ·obtain⟨o1,e1⟩:=there b o q hb
   exact⟨o1,fl'.1 b o1 e1⟩
abbrev Cx.pnx (X:Cx) (t6:List (Addr×Obj)):Cx:={ X with pn:=X.pn++t6 }
abbrev Cx.tr (X:Cx) (C:Addr) (E:XK) (t6:List (Addr×Obj)):Cx:={ X with pn:=X.pn++t6,xe:=fun e s'=>∃ pins σ H s,Inv (X.pnx t6) pins σ H s∧CX1 X.prog X.w C X.stack H s E e s' }
variable {X:Cx}{C:Addr}{E:XK}{t6 pins:List (Addr×Obj)}{σ:St}{H:Hp}{s:Shared}
theorem Inv.aaH (I:Inv X t6 σ H s):Inv (X.tr C E t6) [] σ H s:=
 ⟨⟨I.ok.mod,I.ok.kind,I.ok.glob,I.ok.blt,I.ok.above,I.ok.inj,I.ok.has,I.ok.cab,I.ok.hd,I.ok.frames,I.ok.stk,I.ok.exf,I.ok.bs,I.ok.bsz,I.ok.Oh,I.ok.O3,I.ok.BF,I.ok.frf⟩,I.os,I.bare,I.base,I.loc,I.cell,I.free,I.rG,fun p hp=>I.pin p (by rw[cq] at hp;exact hp),I.hok,I.len⟩
theorem Inv.TQ (I:Inv (X.pnx t6) pins σ H s):Inv X t6 σ H s:=
 ⟨⟨I.ok.mod,I.ok.kind,I.ok.glob,I.ok.blt,I.ok.above,I.ok.inj,I.ok.has,I.ok.cab,I.ok.hd,I.ok.frames,I.ok.stk,I.ok.exf,I.ok.bs,I.ok.bsz,I.ok.Oh,I.ok.O3,I.ok.BF,I.ok.frf⟩,I.os,I.bare,I.base,I.loc,I.cell,I.free,I.rG,fun p hp=>I.pin p (aQ _ hp),I.hok,I.len⟩
theorem Inv.S9 (I:Inv (X.tr C E t6) pins σ H s):Inv (X.pnx t6) pins σ H s:=
 ⟨⟨I.ok.mod,I.ok.kind,I.ok.glob,I.ok.blt,I.ok.above,I.ok.inj,I.ok.has,I.ok.cab,I.ok.hd,I.ok.frames,I.ok.stk,I.ok.exf,I.ok.bs,I.ok.bsz,I.ok.Oh,I.ok.O3,I.ok.BF,I.ok.frf⟩,I.os,I.bare,I.base,I.loc,I.cell,I.free,I.rG,I.pin,I.hok,I.len⟩
theorem VN:Passes (CX1 X.prog X.w C) (X.tr C E t6) E:=fun pins σ H s e s' I hx=>⟨pins,σ,H,s,I.S9,hx⟩
def aaJ (C:Addr) (E:XK) (tb:TS):TS:=fun D σ H=>tb D σ H∧∀ H',E (.ref C) none H'→D.rt (.bl false) H'
theorem Xt {x:Str}{body:List Stmt}{tb:TS}{np hp pos rp aaQ:Pos}{j:Nat} (V6:X.stack=X.env::X.outer) (hfr:X.env.frame=some X.env.locals) (hg:Gl X x) (hm:X.mg x=some (.ref C)) (hq:qK X.K C GX "ValueError.__new__"=true)
 (hpo:∀ e,PassesOwnAt (model X.prog X.w) (X.A.mark (some (.ref e))) X.A X.env X.xe) (hb:∀ t6,PSs (X.tr C E t6) body tb) (hd:(x == ("__debug__" :Str))=false:=by decide):
 PS X (.Try body [.ExceptHandler (some (.Name x np)) none [.Return (some (.Constant (.bool false) j rp)) aaQ] hp] [] [] pos) (aaJ C E tb):=by
 intro pins s σ H D I h
 obtain⟨h,hE⟩:=h
 refine wpAny_Try_except (g8 (hb pins [] s σ H D I.aaH h) (fun f s1 q=>?_) fun e s1 q=>?_)
 ·cases f with
  | next=>
    obtain⟨σ',H',I',q⟩:=q
    exact uQ ⟨σ',H',I'.S9.TQ,q⟩
  | ret v=>
    obtain⟨v',σ',H',I',r,q⟩:=q
    exact⟨v',σ',H',I'.S9.TQ,r,q⟩
  | brk=>
    obtain⟨σ',H',I',q⟩:=q
    exact⟨σ',H',I'.S9.TQ,q⟩
  | cont=>
    obtain⟨σ',H',I',q⟩:=q
    exact⟨σ',H',I'.S9.TQ,q⟩
 ·obtain⟨ac5,σ1,H1,s0,I1,ea,a0,H',B,rfl,hos,hba,hfl,hok,hk,ht,un,hE'⟩:=q
  have J:=I1.TQ
  have hfs:X.A.frames=some (X.env::X.outer):=by rw[← V6];exact J.ok.frames
  have acH:Heap.FlyingW B (X.env::X.outer) ea (.ref C) a0 s1.heap:=by rw[← V6];exact hfl
  refine wpAny_looks_onW hfs hfr acH fun h4 held up4=>?_
  refine wpAny_landsW held fun h5 fl5 up5=>?_
  have aae:Heap.FlyingW B X.stack ea (.ref C) a0 h5:=by rw[V6];exact fl5
  have u5:=WB un hfl hk ht aae (up4.trans up5)
  have I5:Inv X pins σ1 H' { s1 with heap:=h5 }:=J.U5 hos u5 (hok.kept fl5.1) hba (fun b z=>absurd z (by simp))
  obtain⟨ob,hob,acu⟩:=fl5.there
  obtain⟨tl,Nn,nm,q,bs,hdct,sn,sub,ab,col,dd,k0,k1,k2,k3,k5,mN,hC,hN,hni,T⟩:=LB I5.kIn hq
  refine wpAny_handleBy_cons (codeAny_handlers_test (Calls.Name_function_global I5.ok.kind hg (Calls.loadGlobal_global (by rw[I5.ok.glob];exact I5.mod.glob.keeps I5.bk) hm ?_) hd)) (by intro q;cases q)
  refine wpAny_excMatches_sub_self hC hob acu (T.hasType tP.hasBase) (codeAny_handlers_suite ?_)
  refine lands_againW fl5 fun h6 fl6 up6=>?_
  have acX:Heap.FlyingW B X.stack ea (.ref C) a0 h6:=by rw[V6];exact fl6
  have u6:=WB u5 aae hk ht acX up6
  have I6:Inv X pins σ1 H' { s1 with heap:=h6 }:=J.U5 hos u6 (hok.kept fl6.1) hba (fun b z=>absurd z (by simp))
  refine wpAny_passesOwnAt (hpo ea) ?_
  refine wpAny_execs_cons (wpAny_Return_some (Constant_bool ?_))
  exact⟨.bl false,σ1,H',I6,rfl,hE H' hE'⟩
end
end L2
namespace KpWalk
open Kp190 KpRead
inductive Due where
 | msg (t:Nat)
 | fld (fs:List Field) (k:Nat)
def Rd (b:Book) (t:Nat) (r:Row) (n:Nat) (q:Row):Prop:=∃ f,reads b f t r=some (n,q)
theorem Rd.at {b:Book}{t:Nat}{r:Row}{n:Nat}{q:Row} (h:Rd b t r n q) {g:Nat} (hg:n≤g):reads b g t r=some (n,q):=by
 obtain⟨f,h⟩:=h
 exact(HA b f t r n q h).2 g hg
def tV (b:Book):List Field→Nat→Row→Nat→Row→Prop
 | [],j,r,m,q=>j=0∧m=0∧q=r
 | x::fs,j,r,m,q=>(x.opt=true∧(∀ z,r=x.name::z→j=0)∧tV b fs j r m q)∨(∃ j' z m1 q1 m2,j=j'+1∧r=x.name::z∧Rd b x.of_ z m1 q1∧tV b fs j' q1 m2 q∧m=m1+m2)
def Eat (b:Book):Due→Row→Nat→Row→Prop
 | .msg t,r,m,q=>Rd b t r m q
 | .fld fs k,r,m,q=>tV b fs k r m q
def pP (b:Book):List Due→Row→Nat→Row→Prop
 | [],r,m,q=>m=0∧q=r
 | d::ds,r,m,q=>∃ m1 q1 m2,Eat b d r m1 q1∧pP b ds q1 m2 q∧m=m1+m2
theorem pP.app {b:Book}:∀ {a c:List Due}{r:Row}{m:Nat}{q:Row},pP b (a++c) r m q↔∃ m1 q1 m2,pP b a r m1 q1∧pP b c q1 m2 q∧m=m1+m2
 | [],c,r,m,q=>⟨fun h=>⟨0,r,m,⟨rfl,rfl⟩,h,by omega⟩,fun⟨m1,q1,m2,⟨e1,e2⟩,h,e⟩=>by
   subst e1 e2
   rw[fD] at e
   subst e
   exact h⟩
 | d::a,c,r,m,q=>by
   constructor
   ·rintro⟨m1,q1,m2,h1,h2,e⟩
    obtain⟨n1,p1,n2,k1,k2,e2⟩:=pP.app.mp h2
    exact⟨m1+n1,p1,n2,⟨m1,q1,n1,h1,k1,rfl⟩,k2,by omega⟩
   ·rintro⟨m1,q1,m2,⟨n1,p1,n2,k1,k2,e2⟩,h2,e⟩
    exact⟨n1,p1,n2+m2,k1,pP.app.mpr ⟨n2,q1,m2,k2,h2,rfl⟩,by omega⟩
theorem UW {b:Book}{f k:Nat}:∀ (fs:List Field) (p c:Nat) (r:Row) (n:Nat) (q:Row),fs.foldl (fun a x=>a.bind fun y=>sR b f k y x) (some (p,c,r))=some (n,k,q)→c≤k→∃ m,tV b fs (k - c) r m q∧n=p+m
 | [],p,c,r,n,q,e,hc=>by
   injection e with e
   injection e with e1 e
   injection e with e2 e3
   subst e1 e2 e3
   exact⟨0,⟨by omega,rfl,rfl⟩,rfl⟩
 | x::fs,p,c,r,n,q,e,hc=>by
   rw[bu] at e
   have skip:(∀ z,r=x.name::z→k - c=0)→(((some (p,c,r)).bind fun y=>sR b f k y x)=if x.opt then some (p,c,r) else none)→∃ m,tV b (x::fs) (k - c) r m q∧n=p+m:=fun hn hs=>by
    rw[hs] at e
    cases ho:x.opt with
    | false=>
      rw[ho,if_neg (by decide),vt] at e
      cases e
    | true=>
      rw[ho,if_pos rfl] at e
      obtain⟨m,h1,h2⟩:=UW fs p c r n q e hc
      exact⟨m,.inl ⟨ho,hn,h1⟩,h2⟩
   cases r with
   | nil=>exact skip (fun z h=>by cases h) rfl
   | cons nm z=>
     by_cases hx:nm=x.name∧c < k
     ·have hs:((some (p,c,nm::z)).bind fun y=>sR b f k y x)=(reads b f x.of_ z).map fun w=>(p+w.1,c+1,w.2):=by
       show(if nm=x.name∧c < k then _ else _)=_
       rw[if_pos hx]
      rw[hs] at e
      cases hr:reads b f x.of_ z with
      | none=>
        rw[hr] at e
        have:(Option.map (fun w:Nat×Row=>(p+w.1,c+1,w.2)) none)=none:=rfl
        rw[this,vt] at e
        cases e
      | some w=>
        rw[hr] at e
        obtain⟨m,h1,h2⟩:=UW fs (p+w.1) (c+1) w.2 n q e (by omega)
        refine⟨w.1+m,.inr ⟨k - (c+1),z,w.1,w.2,m,by omega,by rw[hx.1],⟨f,hr⟩,h1,rfl⟩,by omega⟩
     ·refine skip (fun z' h=>?_) ?_
      ·injection h with h1 _
       by_cases hk:c < k
       ·exact absurd ⟨h1,hk⟩ hx
       ·omega
      ·show(if nm=x.name∧c < k then _ else _)=_
       rw[if_neg hx]
theorem BH {b:Book}{f:Nat}:∀ (fs:List Field) (j:Nat) (r:Row) (m:Nat) (q:Row),tV b fs j r m q→m≤f→∀ p c,fs.foldl (fun a x=>a.bind fun y=>sR b f (c+j) y x) (some (p,c,r))=some (p+m,c+j,q)
 | [],j,r,m,q,⟨e1,e2,e3⟩,hf,p,c=>by
   subst e1 e2 e3
   rfl
 | x::fs,j,r,m,q,h,hf,p,c=>by
   rw[bu]
   rcases h with ⟨ho,hn,h⟩ | ⟨j',z,m1,q1,m2,rfl,rfl,h1,h2,rfl⟩
   ·have hs:((some (p,c,r)).bind fun y=>sR b f (c+j) y x)=some (p,c,r):=by
     show sR b f (c+j) (p,c,r) x=_
     unfold sR
     cases r with
     | nil=>show(if x.opt then some (p,c,[]) else none)=_;rw[ho,if_pos rfl]
     | cons nm z=>
       show(if nm=x.name∧c < c+j then _ else if x.opt then some (p,c,nm::z) else none)=_
       rw[if_neg,ho,if_pos rfl]
       rintro⟨rfl,hj⟩
       have:=hn z rfl
       omega
    rw[hs]
    exact BH fs j r m q h hf p c
   ·have hs:((some (p,c,x.name::z)).bind fun y=>sR b f (c+(j'+1)) y x)=some (p+m1,c+1,q1):=by
     show(if x.name=x.name∧c < c+(j'+1) then (reads b f x.of_ z).map _ else _)=_
     rw[if_pos ⟨rfl,by omega⟩,h1.at (g:=f) (by omega)]
     rfl
    rw[hs]
    have:=BH (f:=f) fs j' q1 m2 q h2 (by omega) (p+m1) (c+1)
    rw[show c+1+j'=c+(j'+1) by omega,show p+m1+m2=p+(m1+m2) by omega] at this
    exact this
theorem tV.few {b:Book}:∀ {fs:List Field}{j:Nat}{r:Row}{m:Nat}{q:Row},tV b fs j r m q→j≤fs.length
 | [],j,r,m,q,⟨e,_,_⟩=>by rw[e];exact aT _
 | x::fs,j,r,m,q,h=>by
   rcases h with ⟨_,_,h⟩ | ⟨j',z,m1,q1,m2,rfl,rfl,h1,h2,rfl⟩
   ·exact Nat.le_succ_of_le h.few
   ·exact Nat.succ_le_succ h2.few
theorem tV.zero {b:Book}:∀ {fs:List Field}{r:Row}{m:Nat}{q:Row},tV b fs 0 r m q↔(fs.all fun x=>x.opt)=true∧m=0∧q=r
 | [],r,m,q=>⟨fun⟨_,h⟩=>⟨rfl,h⟩,fun⟨_,h⟩=>⟨rfl,h⟩⟩
 | x::fs,r,m,q=>by
   constructor
   ·rintro(⟨ho,_,h⟩ | ⟨j',_,_,_,_,e,_⟩)
    ·obtain⟨h1,h2⟩:=tV.zero.mp h
     exact⟨by rw[kS,ho,h1];rfl,h2⟩
    ·cases e
   ·rintro⟨h1,h2⟩
    rw[kS,a5] at h1
    exact .inl ⟨h1.1,fun _ _=>rfl,tV.zero.mpr ⟨h1.2,h2⟩⟩
def oX:List Field→Nat→Option (Field×List Field)
 | [],_=>none
 | x::fs,n=>if x.name=n then some (x,fs) else if x.opt then oX fs n else none
theorem tV.succ {b:Book}:∀ {fs:List Field}{k:Nat}{r:Row}{m:Nat}{q:Row},tV b fs (k+1) r m q↔∃ n z x gs m1 q1 m2,r=n::z∧oX fs n=some (x,gs)∧Rd b x.of_ z m1 q1∧tV b gs k q1 m2 q∧m=m1+m2
 | [],k,r,m,q=>⟨fun⟨e,_⟩=>(by cases e),fun⟨_,_,_,_,_,_,_,_,e,_⟩=>(by cases e)⟩
 | x::fs,k,r,m,q=>by
   constructor
   ·rintro(⟨ho,hn,h⟩ | ⟨j',z,m1,q1,m2,e,rfl,h1,h2,rfl⟩)
    ·obtain⟨n,z,y,gs,m1,q1,m2,rfl,h1,h2⟩:=tV.succ.mp h
     refine⟨n,z,y,gs,m1,q1,m2,rfl,?_,h2⟩
     unfold oX
     have hne:¬ x.name=n:=fun e=>(by have:=hn z (by rw[e]);cases this)
     rw[if_neg hne,if_pos ho]
     exact h1
    ·injection e with e
     subst e
     exact⟨x.name,z,x,fs,m1,q1,m2,rfl,by unfold oX;rw[if_pos rfl],h1,h2,rfl⟩
   ·rintro⟨n,z,y,gs,m1,q1,m2,rfl,h1,h2,h3,rfl⟩
    unfold oX at h1
    by_cases e:x.name=n
    ·rw[if_pos e] at h1
     obtain⟨rfl,rfl⟩:=aV (aa h1)
     exact .inr ⟨k,z,m1,q1,m2,rfl,by rw[e],h2,h3,rfl⟩
    ·rw[if_neg e] at h1
     cases ho:x.opt with
     | false=>rw[ho,if_neg (by decide)] at h1;cases h1
     | true=>
       rw[ho,if_pos rfl] at h1
       exact .inl ⟨ho,fun z' h=>by injection h with h _;exact absurd h.symm e,tV.succ.mpr ⟨n,z,y,gs,m1,q1,m2,rfl,h1,h2,h3,rfl⟩⟩
theorem WX {b:Book}{f o:Nat}:∀ (l:List Nat) (p:Nat) (r:Row) (n:Nat) (q:Row),l.foldl (fun a x=>a.bind fun y=>sL b f o y x) (some (p,r))=some (n,q)→∃ m,pP b (aj l.length (.msg o)) r m q∧n=p+m
 | [],p,r,n,q,e=>by
   injection e with e
   injection e with e1 e2
   subst e1 e2
   exact⟨0,⟨rfl,rfl⟩,rfl⟩
 | x::l,p,r,n,q,e=>by
   rw[bu] at e
   cases hr:reads b f o r with
   | none=>
     have:((some (p,r)).bind fun y=>sL b f o y x)=none:=by show(reads b f o r).map _=_;rw[hr];rfl
     rw[this,vt] at e
     cases e
   | some w=>
     have:((some (p,r)).bind fun y=>sL b f o y x)=some (p+w.1,w.2):=by show(reads b f o r).map _=_;rw[hr];rfl
     rw[this] at e
     obtain⟨m,h1,h2⟩:=WX l _ _ _ _ e
     exact⟨w.1+m,⟨w.1,w.2,m,⟨f,hr⟩,h1,rfl⟩,by omega⟩
theorem IP {b:Book}{f o:Nat}:∀ (l:List Nat) (p:Nat) (r:Row) (m:Nat) (q:Row),pP b (aj l.length (.msg o)) r m q→m≤f→l.foldl (fun a x=>a.bind fun y=>sL b f o y x) (some (p,r))=some (p+m,q)
 | [],p,r,m,q,⟨e1,e2⟩,_=>by
   subst e1 e2
   rfl
 | x::l,p,r,m,q,⟨m1,q1,m2,h1,h2,e⟩,hf=>by
   rw[bu]
   have h1:Rd b o r m1 q1:=h1
   have:((some (p,r)).bind fun y=>sL b f o y x)=some (p+m1,q1):=by show(reads b f o r).map _=_;rw[h1.at (g:=f) (by omega)];rfl
   rw[this,IP l (p+m1) q1 m2 q h2 (by omega)]
   subst e
   rw[Nat.add_assoc]
def kJ:Form→Row→Nat→Option (Row×Nat×List Due)
 | .num lo hi,r,p=>(match r with
   | 0::v::q=>if p+1≤200∧lo≤v∧v≤hi then some (q,p+1,[]) else none
   | _=>none)
 | .text most,r,p=>(match r with
   | 1::n::q=>if p+1≤200∧n≤most∧p+1+n≤200∧n≤q.length∧(q.take n).all (fun x=>decide (x < 256))=true then some (q.drop n,p+1+n,[]) else none
   | _=>none)
 | .list o lo hi,r,p=>(match r with
   | 2::n::q=>if p+1≤200∧lo≤n∧n≤hi then some (q,p+1,aj n (.msg o)) else none
   | _=>none)
 | .record fs,r,p=>(match r with
   | 3::k::q=>if p+1≤200∧k≤fs.length then some (q,p+1,[.fld fs k]) else none
   | _=>none)
 | .choice fs,r,p=>(match r with
   | 4::n::q=>if p+1≤200 then (fs.find? fun x=>x.name == n).map fun x=>(q,p+1,[.msg x.of_]) else none
   | _=>none)
def Hd (fs:List Field) (k:Nat) (r:Row):Option (Row×List Due):=match k,r with
 | 0,r=>if (fs.all fun x=>x.opt)=true then some (r,[]) else none
 | k+1,n::q=>(oX fs n).map fun x=>(q,[.msg x.1.of_,.fld x.2 k])
 | _+1,[]=>none
def Win (b:Book) (ds:List Due) (r:Row) (p:Nat):Prop:=∃ m,pP b ds r m []∧p+m≤200
theorem Wz {b:Book}{fs:List Field}{k:Nat}{ds:List Due}{r:Row}{p:Nat}:Win b (.fld fs k::ds) r p↔∃ q ds',Hd fs k r=some (q,ds')∧Win b (ds'++ds) q p:=by
 cases k with
 | zero=>
   constructor
   ·rintro⟨m,⟨m1,q1,m2,h1,h2,rfl⟩,hm⟩
    obtain⟨h3,rfl,rfl⟩:=tV.zero.mp h1
    refine⟨q1,[],?_,m2,h2,by omega⟩
    show(if _ then _ else _)=_
    rw[if_pos h3]
   ·rintro⟨q,ds',h,m,h2,hm⟩
    have h:(if (fs.all fun x=>x.opt)=true then some (r,[]) else none)=some (q,ds'):=h
    by_cases h3:(fs.all fun x=>x.opt)=true
    ·rw[if_pos h3] at h
     obtain⟨rfl,rfl⟩:=aV (aa h)
     exact⟨m,⟨0,r,m,tV.zero.mpr ⟨h3,rfl,rfl⟩,h2,by omega⟩,hm⟩
    ·rw[if_neg h3] at h;cases h
 | succ k=>
   constructor
   ·rintro⟨m,⟨m1,q1,m2,h1,h2,rfl⟩,hm⟩
    obtain⟨n,z,x,gs,a1,p1,a2,rfl,k1,k2,k3,rfl⟩:=tV.succ.mp h1
    refine⟨z,[.msg x.of_,.fld gs k],?_,a1+(a2+m2),⟨a1,p1,a2+m2,k2,⟨a2,q1,m2,k3,h2,rfl⟩,rfl⟩,by omega⟩
    show(oX fs n).map _=_
    rw[k1]
    rfl
   ·rintro⟨q,ds',h,m,h2,hm⟩
    cases r with
    | nil=>cases h
    | cons n z=>
      have h:(oX fs n).map (fun x=>(z,[Due.msg x.1.of_,Due.fld x.2 k]))=some (q,ds'):=h
      obtain⟨⟨x,gs⟩,e,h⟩:=map_some h
      obtain⟨rfl,rfl⟩:=aV h
      obtain⟨a1,p1,a2,k2,⟨b1,q1,b2,k3,k4,rfl⟩,rfl⟩:=h2
      exact⟨a1+b1+b2,⟨a1+b1,q1,b2,tV.succ.mpr ⟨n,z,x,gs,a1,p1,b1,rfl,e,k2,k3,rfl⟩,k4,rfl⟩,by omega⟩
theorem Tq {b:Book}{t lo hi:Nat} (h:form b t=.num lo hi) {r:Row}{m:Nat}{q:Row}:Rd b t r m q↔∃ v,r=0::v::q∧(lo≤v∧v≤hi)∧m=1:=by
 constructor
 ·rintro⟨f,e⟩
  cases f with
  | zero=>cases e
  | succ f=>
    unfold reads at e
    rw[h] at e
    dsimp only at e
    split at e
    ·rename_i v z
     by_cases hv:lo≤v∧v≤hi
     ·rw[if_pos hv] at e
      obtain⟨rfl,rfl⟩:=aV (aa e)
      exact⟨v,rfl,hv,rfl⟩
     ·rw[if_neg hv] at e;cases e
    ·cases e
 ·rintro⟨v,rfl,hv,rfl⟩
  refine⟨1,?_⟩
  unfold reads
  rw[h]
  show(if _ then _ else _)=_
  rw[if_pos hv]
theorem Q3 {b:Book}{t most:Nat} (h:form b t=.text most) {r:Row}{m:Nat}{q:Row}:Rd b t r m q↔∃ n z,r=1::n::z∧(n≤most∧n≤z.length∧(z.take n).all (fun x=>decide (x < 256))=true)∧m=1+n∧q=z.drop n:=by
 constructor
 ·rintro⟨f,e⟩
  cases f with
  | zero=>cases e
  | succ f=>
    unfold reads at e
    rw[h] at e
    dsimp only at e
    split at e
    ·rename_i n z
     by_cases hv:n≤most∧n≤z.length∧(z.take n).all (fun x=>decide (x < 256))=true
     ·rw[if_pos hv] at e
      obtain⟨rfl,rfl⟩:=aV (aa e)
      exact⟨n,z,rfl,hv,rfl,rfl⟩
     ·rw[if_neg hv] at e;cases e
    ·cases e
 ·rintro⟨n,z,rfl,hv,rfl,rfl⟩
  refine⟨1,?_⟩
  unfold reads
  rw[h]
  show(if _ then _ else _)=_
  rw[if_pos hv]
theorem Q4 {b:Book}{t o lo hi:Nat} (h:form b t=.list o lo hi) {r:Row}{m:Nat}{q:Row}:Rd b t r m q↔∃ n z m1,r=2::n::z∧(lo≤n∧n≤hi)∧pP b (aj n (.msg o)) z m1 q∧m=1+m1:=by
 constructor
 ·rintro⟨f,e⟩
  cases f with
  | zero=>cases e
  | succ f=>
    have e0:=e
    unfold reads at e
    rw[h] at e
    dsimp only at e
    split at e
    ·rename_i n z
     rw[wF h] at e0
     by_cases hv:lo≤n∧n≤hi
     ·rw[if_pos hv] at e0
      obtain⟨m1,h1,h2⟩:=WX _ _ _ _ _ e0
      rw[bJ] at h1
      exact⟨n,z,m1,rfl,hv,h1,h2⟩
     ·rw[if_neg hv] at e0;cases e0
    ·cases e
 ·rintro⟨n,z,m1,rfl,hv,h1,rfl⟩
  refine⟨m1+1,?_⟩
  rw[wF h,if_pos hv]
  exact IP (f:=m1) (bS n) 1 z m1 q (by rw[bJ];exact h1) (aB _)
theorem K4 {b:Book}{t:Nat}{fs:List Field} (h:form b t=.record fs) {r:Row}{m:Nat}{q:Row}:Rd b t r m q↔∃ k z m1,r=3::k::z∧tV b fs k z m1 q∧m=1+m1:=by
 constructor
 ·rintro⟨f,e⟩
  cases f with
  | zero=>cases e
  | succ f=>
    have e0:=e
    unfold reads at e
    rw[h] at e
    dsimp only at e
    split at e
    ·rename_i k z
     rw[rY h] at e0
     cases hf:fs.foldl (fun a x=>a.bind fun y=>sR b f k y x) (some (1,0,z)) with
     | none=>rw[hf] at e0;cases e0
     | some y=>
       rw[hf] at e0
       have e0:(if y.2.1=k then some (y.1,y.2.2) else none)=some (m,q):=e0
       by_cases hk:y.2.1=k
       ·rw[if_pos hk] at e0
        obtain⟨rfl,rfl⟩:=aV (aa e0)
        have hf:fs.foldl (fun a x=>a.bind fun y=>sR b f k y x) (some (1,0,z))=some (y.1,k,y.2.2):=by rw[hf,← hk]
        obtain⟨m1,h1,h2⟩:=UW _ _ _ _ _ _ hf (aT _)
        exact⟨k,z,m1,rfl,h1,h2⟩
       ·rw[if_neg hk] at e0;cases e0
    ·cases e
 ·rintro⟨k,z,m1,rfl,h1,rfl⟩
  refine⟨m1+1,?_⟩
  rw[rY h]
  have:=BH (f:=m1) fs k z m1 q h1 (aB _) 1 0
  rw[fD] at this
  rw[this]
  show(if k=k then _ else _)=_
  rw[if_pos rfl]
theorem K5 {b:Book}{t:Nat}{fs:List Field} (h:form b t=.choice fs) {r:Row}{m:Nat}{q:Row}:Rd b t r m q↔∃ n z x m1,r=4::n::z∧(fs.find? fun x=>x.name == n)=some x∧Rd b x.of_ z m1 q∧m=1+m1:=by
 constructor
 ·rintro⟨f,e⟩
  cases f with
  | zero=>cases e
  | succ f=>
    have e0:=e
    unfold reads at e
    rw[h] at e
    dsimp only at e
    split at e
    ·rename_i n z
     rw[rZ h] at e0
     cases hx:fs.find? fun x=>x.name == n with
     | none=>rw[hx] at e0;cases e0
     | some x=>
       rw[hx] at e0
       obtain⟨w,h1,h2⟩:=map_some e0
       obtain⟨rfl,rfl⟩:=aV h2
       exact⟨n,z,x,w.1,rfl,hx,⟨f,h1⟩,by omega⟩
    ·cases e
 ·rintro⟨n,z,x,m1,rfl,hx,⟨f,h1⟩,rfl⟩
  refine⟨f+1,?_⟩
  rw[rZ h,hx]
  show(reads b f x.of_ z).map _=_
  rw[h1,Nat.add_comm]
  rfl
theorem Wy {b:Book}{t:Nat}{ds:List Due}{r:Row}{p:Nat}:Win b (.msg t::ds) r p↔∃ q p' ds',kJ (form b t) r p=some (q,p',ds')∧Win b (ds'++ds) q p':=by
 cases h:form b t with
 | num lo hi=>
   constructor
   ·rintro⟨m,⟨m1,q1,m2,h1,h2,rfl⟩,hm⟩
    obtain⟨v,rfl,hv,rfl⟩:=(Tq h).mp h1
    refine⟨q1,p+1,[],?_,m2,h2,by omega⟩
    show(if _ then _ else _)=_
    rw[if_pos ⟨by omega,hv⟩]
   ·rintro⟨q,p',ds',hs,m,h2,hm⟩
    unfold kJ at hs
    dsimp only at hs
    split at hs
    rotate_left
    ·cases hs
    rename_i v z
    by_cases hv:p+1≤200∧lo≤v∧v≤hi
    ·rw[if_pos hv] at hs
     cases hs
     exact⟨1+m,⟨1,_,m,(Tq h).mpr ⟨v,rfl,hv.2,rfl⟩,h2,rfl⟩,by omega⟩
    ·rw[if_neg hv] at hs;cases hs
 | text most=>
   constructor
   ·rintro⟨m,⟨m1,q1,m2,h1,h2,rfl⟩,hm⟩
    obtain⟨n,z,rfl,hv,rfl,rfl⟩:=(Q3 h).mp h1
    refine⟨z.drop n,p+1+n,[],?_,m2,h2,by omega⟩
    show(if _ then _ else _)=_
    rw[if_pos ⟨by omega,hv.1,by omega,hv.2⟩]
   ·rintro⟨q,p',ds',hs,m,h2,hm⟩
    unfold kJ at hs
    dsimp only at hs
    split at hs
    rotate_left
    ·cases hs
    rename_i n z
    by_cases hv:p+1≤200∧n≤most∧p+1+n≤200∧n≤z.length∧(z.take n).all (fun x=>decide (x < 256))=true
    ·rw[if_pos hv] at hs
     cases hs
     exact⟨1+n+m,⟨1+n,z.drop n,m,(Q3 h).mpr ⟨n,z,rfl,⟨hv.2.1,hv.2.2.2⟩,rfl,rfl⟩,h2,rfl⟩,by omega⟩
    ·rw[if_neg hv] at hs;cases hs
 | list o lo hi=>
   constructor
   ·rintro⟨m,⟨m1,q1,m2,h1,h2,rfl⟩,hm⟩
    obtain⟨n,z,a1,rfl,hv,h3,rfl⟩:=(Q4 h).mp h1
    refine⟨z,p+1,aj n (.msg o),?_,a1+m2,pP.app.mpr ⟨a1,q1,m2,h3,h2,rfl⟩,by omega⟩
    show(if _ then _ else _)=_
    rw[if_pos ⟨by omega,hv⟩]
   ·rintro⟨q,p',ds',hs,m,h2,hm⟩
    unfold kJ at hs
    dsimp only at hs
    split at hs
    rotate_left
    ·cases hs
    rename_i n z
    by_cases hv:p+1≤200∧lo≤n∧n≤hi
    ·rw[if_pos hv] at hs
     cases hs
     obtain⟨a1,q1,m2,h3,h4,rfl⟩:=pP.app.mp h2
     exact⟨1+a1+m2,⟨1+a1,q1,m2,(Q4 h).mpr ⟨n,_,a1,rfl,hv.2,h3,rfl⟩,h4,rfl⟩,by omega⟩
    ·rw[if_neg hv] at hs;cases hs
 | record fs=>
   constructor
   ·rintro⟨m,⟨m1,q1,m2,h1,h2,rfl⟩,hm⟩
    obtain⟨k,z,a1,rfl,h3,rfl⟩:=(K4 h).mp h1
    refine⟨z,p+1,[.fld fs k],?_,a1+m2,⟨a1,q1,m2,h3,h2,rfl⟩,by omega⟩
    show(if _ then _ else _)=_
    rw[if_pos ⟨by omega,h3.few⟩]
   ·rintro⟨q,p',ds',hs,m,h2,hm⟩
    unfold kJ at hs
    dsimp only at hs
    split at hs
    rotate_left
    ·cases hs
    rename_i k z
    by_cases hv:p+1≤200∧k≤fs.length
    ·rw[if_pos hv] at hs
     cases hs
     obtain⟨a1,q1,m2,h3,h4,rfl⟩:=h2
     exact⟨1+a1+m2,⟨1+a1,q1,m2,(K4 h).mpr ⟨k,_,a1,rfl,h3,rfl⟩,h4,rfl⟩,by omega⟩
    ·rw[if_neg hv] at hs;cases hs
 | choice fs=>
   constructor
   ·rintro⟨m,⟨m1,q1,m2,h1,h2,rfl⟩,hm⟩
    obtain⟨n,z,x,a1,rfl,hx,h3,rfl⟩:=(K5 h).mp h1
    refine⟨z,p+1,[.msg x.of_],?_,a1+m2,⟨a1,q1,m2,h3,h2,rfl⟩,by omega⟩
    show(if _ then _ else _)=_
    rw[if_pos (by omega),hx]
    rfl
   ·rintro⟨q,p',ds',hs,m,h2,hm⟩
    unfold kJ at hs
    dsimp only at hs
    split at hs
    rotate_left
    ·cases hs
    rename_i n z
    by_cases hv:p+1≤200
    ·rw[if_pos hv] at hs
     obtain⟨x,hx,hs⟩:=map_some hs
     cases hs
     obtain⟨a1,q1,m2,h3,h4,rfl⟩:=h2
     exact⟨1+a1+m2,⟨1+a1,q1,m2,(K5 h).mpr ⟨n,_,x,a1,rfl,hx,h3,rfl⟩,h4,rfl⟩,by omega⟩
    ·rw[if_neg hv] at hs;cases hs
theorem KN (b:Book) (t:Nat) (r:Row):isOf b t r=true↔Win b [.msg t] r 0:=by
 rw[Uk]
 constructor
 ·rintro⟨f,n,h,hn⟩
  exact⟨n,⟨n,[],0,⟨f,h⟩,⟨rfl,rfl⟩,rfl⟩,by have:PARTS=200:=rfl;omega⟩
 ·rintro⟨m,⟨m1,q1,m2,⟨f,h⟩,⟨e2,e⟩,em⟩,hm⟩
  subst e
  exact⟨f,m1,h,by have:PARTS=200:=rfl;omega⟩
theorem Vu (b:Book) (r:Row) (p:Nat) (hp:p≤200):Win b [] r p↔r=[]:=by
 constructor
 ·rintro⟨m,⟨_,e⟩,_⟩
  exact e.symm
 ·rintro rfl
  exact⟨0,⟨rfl,rfl⟩,hp⟩
theorem PZ:∀ {x:Form} (hx:∀ o lo hi,x=.list o lo hi→hi≤32) {r:Row}{p:Nat}{q:Row}{p':Nat}{ds:List Due} (h:kJ x r p=some (q,p',ds)),33 * q.length+ds.length < 33 * r.length∧p'≤200
 | .num lo hi,hx,r,p,q,p',ds,h=>by
   unfold kJ at h
   dsimp only at h
   split at h
   ·split at h
    ·cases h
     simp only[aM,cR]
     omega
    ·cases h
   ·cases h
 | .text most,hx,r,p,q,p',ds,h=>by
   unfold kJ at h
   dsimp only at h
   split at h
   ·split at h
    ·cases h
     simp only[aM,cR,dy]
     omega
    ·cases h
   ·cases h
 | .list o lo hi,hx,r,p,q,p',ds,h=>by
   have:=hx _ _ _ rfl
   unfold kJ at h
   dsimp only at h
   split at h
   ·split at h
    ·cases h
     simp only[aM,aX]
     omega
    ·cases h
   ·cases h
 | .record fs,hx,r,p,q,p',ds,h=>by
   unfold kJ at h
   dsimp only at h
   split at h
   ·split at h
    ·cases h
     simp only[aM,cR]
     omega
    ·cases h
   ·cases h
 | .choice fs,hx,r,p,q,p',ds,h=>by
   unfold kJ at h
   dsimp only at h
   split at h
   ·split at h
    ·obtain⟨x,_,hs⟩:=map_some h
     cases hs
     simp only[aM,cR]
     omega
    ·cases h
   ·cases h
theorem P0 {fs:List Field}{k:Nat}{r q:Row}{ds:List Due} (h:Hd fs k r=some (q,ds)):33 * q.length+ds.length < 33 * r.length+1:=by
 unfold Hd at h
 split at h
 ·split at h
  ·cases h
   simp
  ·cases h
 ·obtain⟨x,hx,hs⟩:=map_some h
  obtain⟨rfl,rfl⟩:=aV hs
  simp only[aM,cR]
  omega
 ·cases h
end KpWalk
namespace L2
open PySem PySem.Spec PyProof.Rows
theorem Fun.okx {P:Program}{w:World}{K:ai}{mg:Str→Option Value}{base:Heap}{C:Addr}{x qual:Str}{st:Stmt}{f:Addr}{fd:FuncData}{N ps:List Str}{k:Nat}{sp:Sp} (F:Fun K x qual st f fd) (S:bb N ps (aL st)) (len:∀ vs H Q E,sp vs H Q E→vs.length=ps.length)
 (OR:∀ (cdv:Value) (A:Around) (outer:List Env) (s:Shared) (H:Hp) (vs:List V) (Q:VK) (E:XK),oW k (A.deeper (envOfC qual (aL st) s.heap.objs.size f cdv))→sp vs H Q E→
   ∃ t,PSs (tq (CX1 P w C) P w K mg base N qual (aL st) f cdv A outer s H E) (zj st) t∧t { nx:=fun _ H'=>Q .non H',rt:=Q } (start N vs) H):cI P w K mg base (CX1 P w C) (k+1) f fd ps sp:=by
 obtain⟨oc,od,kV,doc,pm,an,cdv,ct,osl,rfl,lk,hcd⟩:=F.ex
 exact WY lk hcd S len fun A outer s H vs Q E hr hsp=>OR cdv A outer s H vs Q E hr hsp
end L2
namespace U
open PySem PySem.Spec PyProof.Rows L2
open PySem.W (Codec)
open Ways KpFix KpWalk
section
variable {P:Program}{w:World}{K:ai}{mg:Str→Option Value}{base:Heap}{t:Adr}{C:Addr}
theorem ifT {c:Bool}{A B:Prop} (h:c=true) (a:A):if c=true then A else B:=by rw[if_pos h];exact a
theorem ifF {c:Bool}{A B:Prop} (h:c=false) (b:B):if c=true then A else B:=by rw[if_neg (by rw[h];decide)];exact b
structure TxE (K:ai) (mg:Str→Option Value) (C:Addr):Prop where
 G:mg "NoMessage"=some (.ref C)
 X:qK K C GX "ValueError.__new__"=true
def M4:KpWalk.Due→D
 | .msg t=>.t [.i 0,.i (t:Int)]
 | .fld fs k=>.t [.i 1,.t (fs.map jL),.i (k:Int)]
structure WA where
 dx:Addr
 l:Addr
 nu:Addr
 du:Addr
def wf (A:WA) (pl p:Nat):List (Str×V):=[("told",.ref A.l),("numbers",.ref A.nu),("place",.int pl),("parts",.int p),("due",.ref A.du)]
structure WAt (t:Adr) (H:Hp) (wk:Addr) (A:WA) (b:ax) (r:bc) (p:Nat) (ds:List KpWalk.Due):Prop where
 obj:∃ (r0:bc) (pl:Nat),H wk=some (.ins t.bZ A.dx (wf A pl p))∧H A.nu=some (.lst (nV r0))∧pl≤r0.length∧r0.drop pl=r
 due:∃ xs,H A.du=some (.lst xs)∧bh no H xs (ds.reverse.map M4)
 book:w8 H A.l b
 nd:A.du≠A.nu∧A.du≠A.l
theorem WAt.put {H:Hp}{wk:Addr}{A:WA}{b:ax}{r r':bc}{p p':Nat}{ds:List KpWalk.Due} (W:WAt t H wk A b r p ds) {r0:bc}{pl pl':Nat} (ho:H wk=some (.ins t.bZ A.dx (wf A pl p))) (hn:H A.nu=some (.lst (nV r0))) (hl:pl'≤r0.length) (hr:r0.drop pl'=r'):WAt t (upd H wk (.ins t.bZ A.dx (wf A pl' p'))) wk A b r' p' ds:=by
 have kl:∀ a xs,H a=some (.lst xs)→upd H wk (.ins t.bZ A.dx (wf A pl' p')) a=some (.lst xs):=fun a xs h=>by rw[aN (cu h ho (by intro z;cases z))];exact h
 have kt:∀ a xs,H a=some (.tup xs)→upd H wk (.ins t.bZ A.dx (wf A pl' p')) a=some (.tup xs):=fun a xs h=>by rw[aN (cu h ho (by intro z;cases z))];exact h
 refine⟨⟨r0,pl',aE,kl _ _ hn,hl,hr⟩,?_,?_,W.nd⟩
 ·obtain⟨xs,h,hx⟩:=W.due
  exact⟨xs,kl _ _ h,iD kt (fun a xs _=>kl a xs) _ _ hx⟩
 ·obtain⟨xs,h,hx⟩:=W.book
  exact⟨xs,kl _ _ h,iD kt (fun a xs _=>kl a xs) _ _ hx⟩
def L7 (t:Adr) (C:Addr):Sp:=fun vs H Q E=>Ex6 fun(wk:Addr) (A:WA) (b:ax) (r:bc) (p:Nat) (ds:List KpWalk.Due)=>vs=[.ref wk]∧WAt t H wk A b r p ds∧
 (∀ x q,r=x::q→∀ H',WAt t H' wk A b q p ds→Ext [wk] H H'→Q (.int (x:Nat)) H')∧(r=[]→∀ H',Ext [wk] H H'→E (.ref C) none H')
theorem uF (T:Txt K mg t) (TE:TxE K mg C):cI P w K mg base (CX1 P w C) 1 t.nL t.qC ["self"] (L7 t C):=by
 refine T.qJ.okx Co (fun vs H Q E h=>by obtain⟨_,_,_,_,_,_,e,_⟩:=h;subst e;rfl) (fun cdv A outer s H vs Q E hr h=>?_)
 obtain⟨wk,A,b,r,p,ds,rfl,W,k,ke⟩:=h
 refine⟨_,(ak (b9 (bo WK (bI (pv 0) rfl) (dH cj (by rfl) T.nO cb (ah (bI (pv 0) rfl) aq)) (bL _)) (aA (sP rfl TE.G TE.X)) bp)
  (ak (bW (i:=1) Co.nd rfl (ba rfl) (a9 fj (bI (pv 0) rfl) (bI (pv 0) rfl) (fun _ _=>rfl)))
  (ak (gm (pv 0) (i4 pF (bI (pv 0) rfl) aH) rfl)
  (aA (a6 (pv 1)))))),?_⟩
 obtain⟨r0,pl,ho,hn,hl,hr0⟩:=W.obj
 refine⟨_,rfl,wk,_,A.dx,_,_,rfl,ho,T.cN,T.lV,rfl,?_⟩
 refine⟨_,rfl,wk,_,A.dx,_,_,rfl,ho,T.cN,T.oC,rfl,A.nu,_,rfl,.inl (SqL.of hn),_,_,rfl,rfl,_,rfl,?_⟩
 have hnl:(nV r0).length=r0.length:=by unfold nV nI;rw[ae,ae]
 by_cases hp:pl < r0.length
 ·refine ifF (decide_eq_false (by rw[hnl];omega)) ?_
  have hx:r0[pl]?=some r0[pl]:=aK hp
  have hc:r=r0[pl]::r0.drop (pl+1):=by rw[← hr0];exact cK hp
  refine⟨_,rfl,wk,_,A.dx,_,_,rfl,ho,T.cN,T.oC,rfl,_,rfl,wk,_,A.dx,_,_,rfl,ho,T.cN,T.lV,rfl,A.nu,_,_,_,rfl,rfl,SqL.of hn,aF (MJ hx),?_⟩
  refine⟨_,rfl,wk,_,A.dx,_,_,rfl,ho,T.cN,T.lV,rfl,_,_,rfl,rfl,_,rfl,wk,_,A.dx,_,rfl,ho,T.cN,T.lV,(by show 5 < 1000;decide),?_⟩
  refine⟨_,rfl,k _ _ hc (upd H wk (.ins t.bZ A.dx (wf A (pl+1) p))) (W.put ho hn (by omega) rfl) (Ext.put (ag.mpr rfl))⟩
 ·refine ifT (decide_eq_true (by rw[hnl];omega)) ?_
  refine ke ?_ H (Ext.refl _ _)
  rw[← hr0]
  exact gZ (by omega)
def zx (t:Adr) (C:Addr):Sp:=fun vs H Q E=>Ex8 fun(wk:Addr) (A:WA) (b:ax) (r:bc) (p:Nat) (ds:List KpWalk.Due) (lo hi:Int)=>vs=[.ref wk,.int lo,.int hi]∧WAt t H wk A b r p ds∧
 (∀ x q,r=x::q→lo≤((x:Nat):Int)→((x:Nat):Int)≤hi→∀ H',WAt t H' wk A b q p ds→Ext [wk] H H'→Q (.int (x:Nat)) H')∧((∀ x q,r=x::q→¬ (lo≤((x:Nat):Int)∧((x:Nat):Int)≤hi))→∀ H',Ext [wk] H H'→E (.ref C) none H')
theorem dO (T:Txt K mg t) (TE:TxE K mg C):cI P w K mg base (CX1 P w C) 2 t.eR t.gO ["self","lo","hi"] (zx t C):=by
 refine T.gU.okx rD (fun vs H Q E h=>by obtain⟨_,_,_,_,_,_,_,_,e,_⟩:=h;subst e;rfl) (fun cdv A outer s H vs Q E hr h=>?_)
 obtain⟨wk,A,b,r,p,ds,lo,hi,rfl,W,k,ke⟩:=h
 refine⟨_,(ak (bW (i:=3) rD.nd rfl (ba rfl) (dc (pv 0) T.cN T.yZ (uF T TE) (hr.mono (by decide)) T.y8 .nil qp))
  (ak (b9 (PW.pt (N9 (bo Ff (pv 3) (pv 1) (bL _)) (Ms (bo ve (pv 3) (pv 2) (bL _))))) (aA (sP rfl TE.G TE.X)) bp)
  (aA (a6 (pv 3))))),?_⟩
 obtain⟨r0,pl,ho,_⟩:=W.obj
 refine⟨_,rfl,wk,A.dx,_,rfl,ho,rfl,wk,A,b,r,p,ds,rfl,W,fun x q hx H1 W1 x1=>?_,fun hx H1 x1=>ke (fun x q h=>by rw[hx] at h;cases h) H1 x1⟩
 refine⟨_,rfl,_,rfl,_,_,rfl,rfl,_,rfl,?_⟩
 by_cases h1:((x:Nat):Int) < lo
 ·refine ifT (decide_eq_true h1) (uL ?_)
  exact ke (fun x' q' h=>by rw[hx] at h;injection h with e1 e2;subst e1;omega) H1 x1
 ·refine ifF (decide_eq_false h1) ?_
  refine⟨_,rfl,_,rfl,_,_,rfl,rfl,_,rfl,?_⟩
  by_cases h2:hi < ((x:Nat):Int)
  ·refine ifT (decide_eq_true h2) ?_
   exact ke (fun x' q' h=>by rw[hx] at h;injection h with e1 e2;subst e1;omega) H1 x1
  ·refine ifF (decide_eq_false h2) ?_
   exact⟨_,rfl,k x q hx (by omega) (by omega) H1 W1 x1⟩
def Ce (t:Adr) (C:Addr):Sp:=fun vs H Q E=>Ex7 fun(wk:Addr) (A:WA) (b:ax) (r:bc) (p:Nat) (ds:List KpWalk.Due) (m:Nat)=>vs=[.ref wk,.int m]∧WAt t H wk A b r p ds∧
 (p+m≤200→∀ H',WAt t H' wk A b r (p+m) ds→Ext [wk] H H'→Q .non H')∧(200 < p+m→∀ H',Ext [wk] H H'→E (.ref C) none H')
theorem sS (T:Txt K mg t) (TE:TxE K mg C):cI P w K mg base (CX1 P w C) 1 t.gA t.js ["self","more"] (Ce t C):=by
 refine T.jB.okx Cp (fun vs H Q E h=>by obtain⟨_,_,_,_,_,_,_,e,_⟩:=h;subst e;rfl) (fun cdv A outer s H vs Q E hr h=>?_)
 obtain⟨wk,A,b,r,p,ds,m,rfl,W,k,ke⟩:=h
 refine⟨_,(ak (gm (pv 0) (i4 pF (bI (pv 0) rfl) (pv 1)) rfl)
  (aA (b9 (bo ve (bI (pv 0) rfl) (bz rfl T.sg T.sd) (bL _)) (aA (sP rfl TE.G TE.X)) bp))),?_⟩
 obtain⟨r0,pl,ho,hn,hl,hr0⟩:=W.obj
 refine⟨_,rfl,wk,_,A.dx,_,_,rfl,ho,T.cN,T.se,rfl,_,rfl,_,_,rfl,rfl,_,rfl,wk,_,A.dx,_,rfl,ho,T.cN,T.se,(by show 5 < 1000;decide),?_⟩
 have W1:=W.put (p':=p+m) ho hn hl hr0
 have ho1:upd H wk (.ins t.bZ A.dx (wf A pl (p+m))) wk=some (.ins t.bZ A.dx (wf A pl (p+m))):=aE
 have x1:Ext [wk] H (upd H wk (.ins t.bZ A.dx (wf A pl (p+m)))):=Ext.put (ag.mpr rfl)
 refine⟨_,rfl,wk,_,A.dx,_,_,rfl,ho1,T.cN,T.se,rfl,_,_,rfl,rfl,_,rfl,?_⟩
 by_cases h:p+m≤200
 ·exact ifF (decide_eq_false (by omega)) (k h _ W1 x1)
 ·exact ifT (decide_eq_true (by omega)) (ke (by omega) _ x1)
end
end U
namespace U
open PySem PySem.Spec PyProof.Rows L2
open PySem.W (Codec)
open Ways KpFix KpWalk
section
variable {P:Program}{w:World}{K:ai}{mg:Str→Option Value}{base:Heap}{t:Adr}{C:Addr}
def L1 (C:Addr):Sp:=fun vs H Q E=>Ex2 fun(v:V) (fs:List b8)=>vs=[v]∧Dv no H v (.t (fs.map jL))∧((fs.all fun x=>x.opt)=true→Q .non H)∧((fs.all fun x=>x.opt)=false→E (.ref C) none H)
theorem Pg {α:Type} (f:α→Bool) (l:List α) (x:α):(l++[x]).all f=(l.all f && f x):=by rw[List.all_append];simp
theorem Ay (T:Txt K mg t) (TE:TxE K mg C):cI P w K mg base (CX1 P w C) 1 t.nG t.qz ["fields"] (L1 C):=by
 refine T.nP.okx Cm (fun vs H Q E h=>by obtain⟨_,_,e,_⟩:=h;subst e;rfl) (fun cdv A outer s H vs Q E hr h=>?_)
 obtain⟨v,fs,rfl,hv,k,ke⟩:=h
 refine⟨_,(aA (iW VO rfl (sQ (pv 0)) (cg (i:=1) Cm.nd rfl (ba rfl)) (aA (b9 (bo fe (a9 aY (pv 1) aH (fun _ _=>rfl)) aH (bL _)) (aA (sP rfl TE.G TE.X)) bp)))),?_⟩
 obtain⟨a,xs,rfl,ha,hx⟩:=hv.tupI
 refine⟨_,rfl,a,rfl,⟨_,SqT.of ha⟩,?_⟩
 have hxl:xs.length=fs.length:=by rw[hx.len,ae]
 refine GP (xs:=xs) (fun j σ H'=>(∃ x,σ=[some (.ref a),x])∧H'=H∧((fs.take j).all fun x=>x.opt)=true) ⟨⟨_,rfl⟩,rfl,rfl⟩ (fun i σ H' _ h=>by rw[h.2.1];exact SqT.of ha) ?_ ?_
 ·rintro j x σ H' hj ⟨⟨y,rfl⟩,rfl,iX⟩
  obtain⟨d,hd,hdv⟩:=hx.get hj
  obtain⟨f,hf,rfl⟩:=cx hd
  obtain⟨p,rfl,hp⟩:=Dv.m8 (ns:=[(f.name:Int),if f.opt then 1 else 0,(f.of_:Int)]) hdv
  refine⟨_,rfl,p,_,_,_,rfl,rfl,SqT.of hp,aF (j:=1) rfl,rfl,_,rfl,?_⟩
  cases ho:f.opt with
  | true=>
    refine c5 (by rw[if_pos rfl];decide) ⟨⟨_,rfl⟩,rfl,?_⟩
    rw[cV hf,Pg,iX,ho];rfl
  | false=>
    refine nz (by rw[if_neg (by decide)]) (ke ?_)
    cases e:fs.all fun x=>x.opt with
    | false=>rfl
    | true=>
      have:=bQ.mp e f (a7 hf)
      rw[ho] at this
      cases this
 ·rintro σ H' ⟨⟨y,rfl⟩,rfl,iX⟩
  rw[hxl,cz] at iX
  exact k iX
def AX (t:Adr) (C:Addr):Sp:=fun vs H Q E=>Ex7 fun(wk:Addr) (A:WA) (b:ax) (r:bc) (p:Nat) (ds:List KpWalk.Due) (most:Nat)=>vs=[.ref wk,.int most]∧WAt t H wk A b r p ds∧
 (∀ n q,r=n::q→n≤most→p+n≤200→n≤q.length→(q.take n).all (fun x=>decide (x < 256))=true→∀ H',WAt t H' wk A b (q.drop n) (p+n) ds→Ext [wk] H H'→Q .non H')∧
 ((∀ n q,r=n::q→¬ (n≤most∧p+n≤200∧n≤q.length∧(q.take n).all (fun x=>decide (x < 256))=true))→∀ H',Ext [wk] H H'→E (.ref C) none H')
theorem zN (T:Txt K mg t) (TE:TxE K mg C):cI P w K mg base (CX1 P w C) 3 t.ft t.iG ["self","most"] (AX t C):=by
 refine T.iP.okx m9 (fun vs H Q E h=>by obtain⟨_,_,_,_,_,_,_,e,_⟩:=h;subst e;rfl) (fun cdv A outer s H vs Q E hr h=>?_)
 obtain⟨wk,A,b,r,p,ds,most,rfl,W,k,ke⟩:=h
 refine⟨_,(ak (bW (i:=2) m9.nd rfl (ba rfl) (cn (pv 0) T.cN T.eU (dO T TE) (hr.mono (by decide)) T.eV .nil qp (ah aH (ah (pv 1) aq))))
  (ak (cw (cn (pv 0) T.cN T.vN (sS T TE) (hr.mono (by decide)) T.vV .nil qp (ah (pv 2) aq)))
  (aA (iW VO rfl (La rfl T.zm (ah (pv 2) aq)) (cg (i:=3) m9.nd rfl (ba rfl)) (aA (cw (cn (pv 0) T.cN T.eU (dO T TE) (hr.mono (by decide)) T.eV .nil qp (ah aH (ah (bz rfl T.Jv T.Jn) aq))))))))),?_⟩
 obtain⟨r0,pl,ho,_⟩:=W.obj
 refine⟨_,rfl,wk,A.dx,_,rfl,ho,rfl,_,rfl,wk,A,b,r,p,ds,0,(most:Nat),rfl,W,fun n q hq h0 h1 H1 W1 x1=>?_,fun hx H1 x1=>ke (fun n q h z=>hx n q h ⟨by omega,by omega⟩) H1 x1⟩
 obtain⟨r1,pl1,ho1,_⟩:=W1.obj
 refine⟨_,rfl,wk,A.dx,_,rfl,ho1,rfl,_,rfl,wk,A,b,q,p,ds,n,rfl,W1,fun hp H2 W2 x2=>?_,fun hp H2 x2=>ke (fun n' q' h z=>?_) H2 (x1.trans x2)⟩
 ·refine⟨_,rfl,(n:Nat),rfl,by omega,by omega,?_⟩
  refine ET (lo:=0) (n:=((n:Nat):Int).toNat) (fun j σ Hj=>(∃ x,σ=[some (.ref wk),some (.int (most:Nat)),some (.int (n:Nat)),x])∧j≤q.length∧((q.take j).all fun x=>decide (x < 256))=true∧WAt t Hj wk A b (q.drop j) (p+n) ds∧Ext [wk] H Hj)
   ⟨⟨_,rfl⟩,aT _,rfl,W2,x1.trans x2⟩ ?_ ?_
  ·rintro j σ Hj hj ⟨⟨x,rfl⟩,hjl,iX,Wj,xj⟩
   rw[cc] at hj
   obtain⟨rj,plj,hoj,_⟩:=Wj.obj
   refine⟨_,rfl,wk,A.dx,_,rfl,hoj,rfl,wk,A,b,q.drop j,p+n,ds,0,255,rfl,Wj,fun x q' hx h0 h1 H3 W3 x3=>?_,fun hx H3 x3=>ke (fun n' q' h z=>?_) H3 (xj.trans x3)⟩
   ·have Ss:j < q.length:=by
     have:=congrArg ja hx
     rw[dy,aM] at this
     omega
    have hd:=cK Ss
    rw[hx] at hd
    injection hd with e1 e2
    refine⟨⟨_,rfl⟩,Ss,?_,by rw[← e2];exact W3,xj.trans x3⟩
    rw[cV (aK Ss),Pg,iX,← e1]
    simp
    omega
   ·rw[hq] at h
    injection h with e1 e2
    subst e1 e2
    obtain⟨_,_,z3,z4⟩:=z
    have Ss:j < q.length:=by omega
    refine hx q[j] (q.drop (j+1)) (cK Ss) ⟨by omega,?_⟩
    have hm:q[j]∈q.take n:=a7 (i:=j) (by rw[List.getElem?_take_of_lt hj];exact aK Ss)
    have:=of_decide_eq_true (bQ.mp z4 _ hm)
    omega
  ·rintro σ Hj ⟨⟨x,rfl⟩,hjl,iX,Wj,xj⟩
   rw[cc] at hjl iX Wj
   exact k n q hq (by omega) hp hjl iX Hj Wj xj
 ·rw[hq] at h
  injection h with e1 e2
  subst e1 e2
  omega
end
end U
namespace U
open PySem PySem.Spec PyProof.Rows L2
open PySem.W (Codec)
open Ways KpFix KpWalk
section
variable {P:Program}{w:World}{K:ai}{mg:Str→Option Value}{base:Heap}{t:Adr}{C:Addr}
theorem WAt.same {H H':Hp}{wk:Addr}{A:WA}{b:ax}{r:bc}{p:Nat}{ds:List KpWalk.Due} (W:WAt t H wk A b r p ds) (s:bg H H'):WAt t H' wk A b r p ds:=by
 obtain⟨r0,pl,ho,hn,hl,hr⟩:=W.obj
 obtain⟨xs,hd,hx⟩:=W.due
 obtain⟨bs,hb,hbx⟩:=W.book
 exact⟨⟨r0,pl,s _ _ ho,s _ _ hn,hl,hr⟩,⟨xs,s _ _ hd,hx.keep (Kp.of_same s)⟩,⟨bs,s _ _ hb,hbx.keep (Kp.of_same s)⟩,W.nd⟩
theorem WAt.Bc {H:Hp}{wk:Addr}{A:WA}{b:ax}{r:bc}{p:Nat}{ds ds':List KpWalk.Due} (W:WAt t H wk A b r p ds) {ys:List V} (hy:bh no H ys (ds'.reverse.map M4)):WAt t (upd H A.du (.lst ys)) wk A b r p ds':=by
 obtain⟨r0,pl,ho,hn,hl,hr⟩:=W.obj
 obtain⟨xs,hd,hx⟩:=W.due
 obtain⟨bs,hb,hbx⟩:=W.book
 exact⟨⟨r0,pl,by rw[aN (cu ho hd (by intro z;cases z))];exact ho,by rw[aN (br W.nd.1)];exact hn,hl,hr⟩,⟨ys,aE,Ib hd hy⟩,⟨bs,by rw[aN (br W.nd.2)];exact hb,Ib hd hbx⟩,W.nd⟩
theorem GN {H:Hp}{a:Addr}{n:Nat} (h:H a=some (.tup [.int 0,.int n])):Dv no H (.ref a) (M4 (.msg n)):=.tup h (.cons (.int _) (.cons (.int _) .nil))
def Dj (r:bc) (ds:List KpWalk.Due):Prop:=33 * r.length+ds.length≤999000
def zz (t:Adr) (C:Addr):Sp:=fun vs H Q E=>Ex8 fun(wk:Addr) (A:WA) (b:ax) (r:bc) (p:Nat) (ds:List KpWalk.Due) (v:V) (fs:List b8)=>vs=[.ref wk,v]∧WAt t H wk A b r p ds∧Dj r ds∧Dv no H v (.t (fs.map Vb))∧
 (∀ n q f,r=n::q→(fs.find? fun x=>x.name == n)=some f→∀ H',WAt t H' wk A b q p (.msg f.of_::ds)→Ext [wk,A.du] H H'→Q .non H')∧
 ((∀ n q,r=n::q→(fs.find? fun x=>x.name == n)=none)→∀ H',Ext [wk,A.du] H H'→E (.ref C) none H')
theorem SF {α:Type}{p:α→Bool}{l:List α}{i:Nat}{x:α} (h:l[i]?=some x) (hn:(l.take i).find? p=none) (hp:p x=true):l.find? p=some x:=by
 have e:l=l.take i++(x::l.drop (i+1)):=by
  have hi:=(aP.mp h)
  rw[← hi.2,← cK hi.1,qL]
 rw[e,List.find?_append,hn,eM,hp]
 rfl
theorem yH (T:Txt K mg t) (TE:TxE K mg C):cI P w K mg base (CX1 P w C) 2 t.eT t.gQ ["self","choices"] (zz t C):=by
 refine T.gX.okx ma (fun vs H Q E h=>by obtain⟨_,_,_,_,_,_,_,_,e,_⟩:=h;subst e;rfl) (fun cdv A outer s H vs Q E hr h=>?_)
 obtain⟨wk,A,b,r,p,ds,v,fs,rfl,W,hfw,hv,k,ke⟩:=h
 refine⟨_,(ak (bW (i:=2) ma.nd rfl (ba rfl) (dc (pv 0) T.cN T.yZ (uF T TE) (hr.mono (by decide)) T.y8 .nil qp))
  (ak (iW VO rfl (sQ (pv 1)) (cg (i:=3) ma.nd rfl (ba rfl)) (aA (b9 (bo fe (a9 aY (pv 3) aH (fun _ _=>rfl)) (pv 2) (bL _)) (ak (cw (l5 aW bB bA d5 (bI (pv 0) rfl) (ah (dG (ah (bz rfl T.vR T.vM) (ah (a9 aY (pv 3) aH (fun _ _=>rfl)) aq))) aq)))
  (aA Mt)) bp)))
  (aA (sP rfl TE.G TE.X)))),?_⟩
 obtain⟨a,xs,rfl,ha,hx⟩:=hv.tupI
 have hxl:xs.length=fs.length:=by rw[hx.len,ae]
 obtain⟨r0,pl,ho,_⟩:=W.obj
 have mono:∀ {H1 H2:Hp},Ext [wk] H1 H2→Ext [wk,A.du] H1 H2:=fun x=>x.mono (fun y hy=>by rw[ag.mp hy];exact aI ..)
 refine⟨_,rfl,wk,A.dx,_,rfl,ho,rfl,wk,A,b,r,p,ds,rfl,W,fun n q hq H1 W1 x1=>?_,fun hq H1 x1=>ke (fun n q h=>by rw[hq] at h;cases h) H1 (mono x1)⟩
 have ne1:a≠wk:=cu ha ho (by intro z;cases z)
 have ha1:H1 a=some (.tup xs):=x1 _ _ ha (by simpa using ne1)
 have kp1:Kp no H H1:=fun b o h i=>x1 b o h (by
  rcases i with i | ⟨zs,rfl⟩
  ·exact absurd i id
  ·simpa using cu h ho (by intro z;cases z))
 have hx1:bh no H1 xs (fs.map Vb):=hx.keep kp1
 refine⟨_,rfl,a,rfl,⟨_,SqT.of ha1⟩,?_⟩
 refine GP (xs:=xs) (fun j σ H'=>(∃ x,σ=[some (.ref wk),some (.ref a),some (.int (n:Nat)),x])∧H'=H1∧((fs.take j).find? fun x=>x.name == n)=none) ⟨⟨_,rfl⟩,rfl,rfl⟩ (fun i σ H' _ h=>by rw[h.2.1];exact SqT.of ha1) ?_ ?_
 ·rintro j x σ H' hj ⟨⟨y,rfl⟩,rfl,hnf⟩
  obtain⟨d,hd,hdv⟩:=hx1.get hj
  obtain⟨f,hf,rfl⟩:=cx hd
  obtain⟨c,rfl,hc⟩:=Dv.m8 (ns:=[(f.name:Int),(f.of_:Int)]) hdv
  refine⟨_,rfl,c,_,_,_,rfl,rfl,SqT.of hc,aF (j:=0) rfl,_,rfl,rfl,_,rfl,?_⟩
  by_cases e:f.name=n
  ·refine nz (by rw[e]) ?_
   obtain⟨r1,pl1,ho1,_⟩:=W1.obj
   obtain⟨zs,hz,hzx⟩:=W1.due
   have hzl:zs.length=ds.length:=by rw[hzx.len,ae,dJ]
   refine⟨_,rfl,wk,_,A.dx,_,_,rfl,ho1,T.cN,T.jM,rfl,.inl ⟨rfl,_,SqL.of hz⟩,?_⟩
   refine⟨_,rfl,c,_,_,_,rfl,rfl,SqT.of hc,aF (j:=1) rfl,(by show 2≤sizeLine;decide),fun p1 hp1=>?_⟩
   have s1:=bg.new (o:=.tup [.int 0,.int (f.of_:Nat)]) hp1
   refine⟨A.du,zs,_,rfl,rfl,s1 _ _ hz,small _ (by unfold Dj at hfw;omega),?_⟩
   refine k n q f hq (SF hf hnf (by rw[e];exact beq_self_eq_true n)) _ ((W1.same s1).Bc (ds':=.msg f.of_::ds) ?_) (((mono x1).trans (Ext.of_same s1)).trans (Ext.put (by simp)))
   rw[pR,aJ]
   exact(hzx.keep (Kp.of_same s1)).append (.cons (GN aE) .nil)
  ·refine c5 (by omega) ⟨⟨_,rfl⟩,rfl,?_⟩
   rw[cV hf,List.find?_append,hnf,eM,show(f.name == n)=false from beq_eq_false_iff_ne.mpr e]
   rfl
 ·rintro σ H' ⟨⟨y,rfl⟩,rfl,hnf⟩
  rw[hxl,cz] at hnf
  exact ke (fun n' q' h=>by rw[hq] at h;injection h with e1 e2;rw[← e1];exact hnf) _ (mono x1)
end
end U
namespace KpWalk
open Kp190
theorem Oj:∀ {fs:List Field}{i:Nat}{x:Field}{n:Nat},fs[i]?=some x→x.name=n→(∀ m y,m < i→fs[m]?=some y→y.name≠n)→oX fs n=if ((fs.take i).all fun x=>x.opt)=true then some (x,fs.drop (i+1)) else none
 | [],i,x,n,h,_,_=>by simp at h
 | f::fs,0,x,n,h,e,_=>by
   obtain rfl:=aa h
   unfold oX
   rw[if_pos e,if_pos (by rfl)]
   rfl
 | f::fs,i+1,x,n,h,e,hn=>by
   have ih:=Oj (fs:=fs) (i:=i) (x:=x) (n:=n) h e fun m y hm hy=>hn (m+1) y (by omega) hy
   have h0:¬ f.name=n:=hn 0 f (by omega) rfl
   rw[oX,if_neg h0,ih,List.take_succ_cons,kS,List.drop_succ_cons]
   cases f.opt with
   | true=>simp
   | false=>simp
theorem Oi:∀ {fs:List Field}{n:Nat},(∀ y∈fs,y.name≠n)→oX fs n=none
 | [],_,_=>rfl
 | f::fs,n,h=>by
   have ih:=Oi (fs:=fs) (n:=n) fun y hy=>h y (aG _ hy)
   rw[oX,if_neg (h f (aI ..)),ih]
   simp
theorem O2:∀ {fs:List Field}{n:Nat},(∃ y∈fs,y.name=n)→∃ (i:Nat) (x:Field),fs[i]?=some x∧x.name=n∧∀ (m:Nat) (y:Field),m < i→fs[m]?=some y→y.name≠n
 | [],_,h=>by obtain⟨y,hy,_⟩:=h;cases hy
 | f::fs,n,h=>by
   by_cases e:f.name=n
   ·exact⟨0,f,rfl,e,fun m y hm=>absurd hm (Nat.not_lt_zero _)⟩
   ·obtain⟨y,hy,he⟩:=h
    rcases aC.mp hy with rfl | hy
    ·exact absurd he e
    ·obtain⟨i,x,h1,h2,h3⟩:=O2 ⟨y,hy,he⟩
     refine⟨i+1,x,h1,h2,fun m z hm hz=>?_⟩
     cases m with
     | zero=>
       obtain rfl:=aa hz
       exact e
     | succ m=>exact h3 m z (by omega) hz
end KpWalk
namespace U
open PySem PySem.Spec PyProof.Rows L2
open PySem.W (Codec)
open Ways KpFix KpWalk
section
variable {P:Program}{w:World}{K:ai}{mg:Str→Option Value}{base:Heap}{t:Adr}{C:Addr}
theorem Lz (ns:List Int):(ns.map V.int).all vz=true:=by rw[bQ];intro v hv;obtain⟨n,_,rfl⟩:=ay.mp hv;rfl
theorem Ext.kpT {M:List Addr}{H H':Hp} (x:Ext M H H') (h:∀ m∈M,∀ xs,H m≠some (.tup xs)):Kp no H H':=Kp.sV x fun m hm=>⟨id,h m hm⟩
theorem WAt.noT {H:Hp}{wk:Addr}{A:WA}{b:ax}{r:bc}{p:Nat}{ds:List KpWalk.Due} (W:WAt t H wk A b r p ds):∀ m∈[wk,A.du],∀ xs,H m≠some (.tup xs):=by
 intro m hm xs
 obtain⟨r0,pl,ho,_⟩:=W.obj
 obtain⟨zs,hz,_⟩:=W.due
 simp only[aC,bN,or_false] at hm
 rcases hm with rfl | rfl
 ·rw[ho];exact fun z=>nomatch z
 ·rw[hz];exact fun z=>nomatch z
def zy (t:Adr) (C:Addr):Sp:=fun vs H Q E=>Ex9 fun(wk:Addr) (A:WA) (b:ax) (r:bc) (p:Nat) (ds:List KpWalk.Due) (v:V) (fs:List b8) (kk:Nat)=>vs=[.ref wk,v,.int kk]∧WAt t H wk A b r p ds∧Dj r ds∧fs.length≤8∧Dv no H v (.t (fs.map jL))∧
 (∀ q ds',Hd fs kk r=some (q,ds')→∀ H',WAt t H' wk A b q p (ds'++ds)→Ext [wk,A.du] H H'→Q .non H')∧
 (Hd fs kk r=none→∀ H',Ext [wk,A.du] H H'→E (.ref C) none H')
theorem yG (T:Txt K mg t) (TE:TxE K mg C):cI P w K mg base (CX1 P w C) 2 t.eS t.gP ["self","fields","left"] (zy t C):=by
 refine T.gW.okx fJ (fun vs H Q E h=>by obtain⟨_,_,_,_,_,_,_,_,_,e,_⟩:=h;subst e;rfl) (fun cdv A outer s H vs Q E hr h=>?_)
 obtain⟨wk,A,b,r,p,ds,v,fs,kk,rfl,W,hfw,h8,hv,k,ke⟩:=h
 refine⟨_,(ak (b9 (bo fe (pv 2) aH (bL _)) (ak (cw (bG (Ay T TE) (hr.mono (by decide)) rfl T.Fz T.nP.kp T.FC .nil qp (ah (pv 1) aq)))
  (aA Mt)) bp)
  (ak (bW (i:=3) fJ.nd rfl (ba rfl) (dc (pv 0) T.cN T.yZ (uF T TE) (hr.mono (by decide)) T.y8 .nil qp))
  (ak (HF (i:=4) (own:=[("field",5)]) rfl fJ.nd rfl rfl rfl (sQ (pv 1)) (show lp sW (aL jH) _ _ from⟨rfl,by decide +kernel,by decide +kernel,by decide +kernel,by decide +kernel⟩) (fun _ _ _ _ _=>(cg (i:=5) fJ.nd rfl (ba rfl))) (fun _ _ _ _ _=>iA) (fun _ _ _ _ _=>(a9 (r:=tR K) aY (pv 5) aH (fun _ _=>rfl))))
  (ak (b9 (bo CH (pv 3) (pv 4) rfl) (aA (sP rfl TE.G TE.X)) bp)
  (ak (bW (i:=6) fJ.nd rfl (ba rfl) (l5 aW PySem.F.slot_list_index PySem.F.type_list_index TZ (pv 4) (ah (pv 3) aq)))
  (ak (cw (bG (Ay T TE) (hr.mono (by decide)) rfl T.Fz T.nP.kp T.FC .nil qp (ah (HH Th (pv 1) Ra (GJ (pv 6))) aq)))
  (ak (cw (l5 aW bB bA d5 (bI (pv 0) rfl) (ah (dG (ah (bz rfl T.Pz T.Pq) (ah (HH Th (pv 1) (GJ (i4 pF (pv 6) aH)) Ra) (ah (i4 HN (pv 2) aH) aq)))) aq)))
  (aA (cw (l5 aW bB bA d5 (bI (pv 0) rfl) (ah (dG (ah (bz rfl T.vR T.vM) (ah (a9 aY (a9 aY (pv 1) (pv 6) (fun _ _=>rfl)) aH (fun _ _=>rfl)) aq))) aq))))))))))),?_⟩
 obtain⟨a,xs,rfl,ha,hx⟩:=hv.tupI
 have hxl:xs.length=fs.length:=by rw[hx.len,ae]
 obtain⟨r0,pl,ho,_⟩:=W.obj
 have mono:∀ {H1 H2:Hp},Ext [wk] H1 H2→Ext [wk,A.du] H1 H2:=fun x=>x.mono (fun y hy=>by rw[ag.mp hy];exact aI ..)
 refine⟨_,rfl,rfl,_,rfl,?_⟩
 cases kk with
 | zero=>
   refine nz rfl ?_
   refine⟨_,rfl,_,fs,rfl,hv,fun iX=>?_,fun iX=>ke ?_ H (Ext.refl _ _)⟩
   ·refine k r [] ?_ H W (Ext.refl _ _)
    show(if _ then _ else _)=_
    rw[if_pos iX]
   ·show(if _ then _ else _)=_
    rw[iX,if_neg (by decide)]
 | succ kk=>
   refine c5 (by omega) ?_
   refine⟨_,rfl,wk,A.dx,_,rfl,ho,rfl,wk,A,b,r,p,ds,rfl,W,fun n q hq H1 W1 x1=>?_,fun hq H1 x1=>ke (by rw[hq];rfl) H1 (mono x1)⟩
   subst hq
   have kp1:Kp no H H1:=Ext.kpT (mono x1) W.noT
   have ha1:H1 a=some (.tup xs):=kp1 _ _ ha (.inr ⟨_,rfl⟩)
   have hx1:bh no H1 xs (fs.map jL):=hx.keep kp1
   dsimp only[RY,PV,AG]
   refine uK (S:=no) (ds:=(fs.map fun f=>(f.name:Int)).map D.i) ?_ (fun R h=>⟨_,rfl,a,rfl,⟨_,SqT.of ha1⟩,h⟩) (Walks.tup (SqT.of ha1)) (by rw[hxl,ae,ae]) (by rw[hxl];exact small _ (by omega)) ?_
   ·intro v2 H2 s2 h2
    obtain⟨al,rfl,_,hal⟩:=Dv.lint h2
    have W2:=W1.same s2
    have ha2:=s2 _ _ ha1
    have hx2:=hx1.keep (Kp.of_same s2)
    have x2:Ext [wk,A.du] H H2:=(mono x1).trans (Ext.of_same s2)
    refine⟨_,rfl,_,rfl,al,_,rfl,.inl (SqL.of hal),rfl,Lz _,_,rfl,?_⟩
    by_cases hm:∃ y∈fs,y.name=n
    ·have hc:inV (V.int (n:Nat)) ((fs.map fun f=>(f.name:Int)).map V.int)=true:=by
      obtain⟨y,hy,e⟩:=hm
      rw[C9]
      exact lu.mpr (ay.mpr ⟨y,hy,by rw[e]⟩)
     refine ifF (by show(!inV _ _)=false;rw[hc];rfl) ?_
     obtain⟨i,x,hix,hxn,ZV⟩:=O2 hm
     have hil:=(aP.mp hix).1
     have hnx:=Oj hix hxn ZV
     refine⟨_,rfl,.inl ⟨rfl,_,SqL.of hal⟩,_,rfl,al,_,_,i,V.int (n:Nat),rfl,rfl,SqL.of hal,rfl,Lz _,?_,?_,fun m z hm' hz=>?_,?_⟩
     ·rw[bq,bq,hix,← hxn];rfl
     ·exact beq_self_eq_true (n:Int)
     ·rw[bq,bq] at hz
      cases e:fs[m]? with
      | none=>rw[e] at hz;cases hz
      | some y=>
        rw[e] at hz
        obtain rfl:=aa hz
        have:=ZV m y hm' e
        exact beq_eq_false_iff_ne.mpr (fun z:((y.name:Nat):Int)=(n:Nat)=>this (by omega))
     ·have hl0:I0 xs none (some (i:Int))=xs.take i:=by
       unfold I0
       rw[HT.ze,HT.NX,Au (by omega)]
       rfl
      have hl1:I0 xs (some ((i:Int)+1)) none=xs.drop (i+1):=by
       unfold I0
       rw[show(i:Int)+1=((i+1:Nat):Int) by omega,HT.ze,HT.NX,Au (by omega)]
       exact List.take_of_length_le (by rw[dy];exact aB _)
      refine⟨_,rfl,_,rfl,_,rfl,a,xs,rfl,SqT.of ha2,?_,fun p1 hp1=>?_⟩
      ·rintro⟨_,z⟩
       rw[HT.ze,Au (by omega)] at z
       omega
      rw[hl0]
      have s3:=bg.new (o:=.tup (xs.take i)) hp1
      have hd3:Dv no (upd H2 p1 (.tup (xs.take i))) (.ref p1) (.t ((fs.take i).map jL)):=.tup aE (by rw[List.map_take];exact(hx2.take i).keep (Kp.of_same s3))
      refine⟨_,fs.take i,rfl,hd3,fun iX=>?_,fun iX=>ke ?_ _ (x2.trans (Ext.of_same s3))⟩
      ·have W3:=W2.same s3
       have ha3:=s3 _ _ ha2
       have hx3:=hx2.keep (Kp.of_same s3)
       have x3:Ext [wk,A.du] H (upd H2 p1 (.tup (xs.take i))):=x2.trans (Ext.of_same s3)
       generalize upd H2 p1 (.tup (xs.take i))=H3 at W3 ha3 hx3 x3 ⊢
       obtain⟨_,_,ho3,_⟩:=W3.obj
       obtain⟨zs,hz,hzx⟩:=W3.due
       have hzl:zs.length=ds.length:=by rw[hzx.len,ae,dJ]
       unfold Dj at hfw
       refine⟨_,rfl,wk,_,A.dx,_,_,rfl,ho3,T.cN,T.jM,rfl,.inl ⟨rfl,_,SqL.of hz⟩,?_⟩
       refine⟨_,rfl,_,rfl,_,_,rfl,rfl,_,rfl,a,xs,rfl,SqT.of ha3,?_,fun p2 hp2=>?_⟩
       ·rintro⟨z,_⟩
        rw[show(i:Int)+1=((i+1:Nat):Int) by omega,HT.ze,Au (by omega)] at z
        omega
       rw[hl1]
       have s4:=bg.new (o:=.tup (xs.drop (i+1))) hp2
       refine⟨_,rfl,_,_,rfl,rfl,(by show 3≤sizeLine;decide),fun p3 hp3=>?_⟩
       have ek:((kk+1:Nat):Int) - 1=(kk:Nat):=by omega
       have hk1:∀ {H':Hp},Dv no H' (.int (((kk+1:Nat):Int) - 1)) (.i (kk:Nat)):=fun {H'}=>by rw[ek];exact .int _
       have s5:=bg.new (o:=.tup [.int 1,.ref p2,.int (((kk+1:Nat):Int) - 1)]) hp3
       have s45:=s4.trans s5
       refine⟨A.du,zs,_,rfl,rfl,s45 _ _ hz,small _ (by omega),?_⟩
       have W5:=(W3.same s45).Bc (ds':=.fld (fs.drop (i+1)) kk::ds) (ys:=zs++[.ref p3]) (by
        rw[pR,aJ]
        refine(hzx.keep (Kp.of_same s45)).append (.cons ?_ .nil)
        refine .tup aE (.cons (.int _) (.cons (.tup (s5 _ _ aE) ?_) (.cons hk1 .nil)))
        rw[List.map_drop]
        exact(hx3.drop (i+1)).keep (Kp.of_same s45))
       have x5:Ext [wk,A.du] H (upd (upd (upd H3 p2 (.tup (xs.drop (i+1)))) p3 (.tup [.int 1,.ref p2,.int (((kk+1:Nat):Int) - 1)])) A.du (.lst (zs++[.ref p3]))):=(x3.trans (Ext.of_same s45)).trans (Ext.put (by simp))
       have kp5:Kp no H3 (upd (upd (upd H3 p2 (.tup (xs.drop (i+1)))) p3 (.tup [.int 1,.ref p2,.int (((kk+1:Nat):Int) - 1)])) A.du (.lst (zs++[.ref p3]))):=(Kp.of_same s45).trans (Kp.put (s45 _ _ hz) (fun _ z=>by cases z) id)
       have ha5:=kp5 _ _ ha3 (.inr ⟨_,rfl⟩)
       have hx5:=hx3.keep kp5
       generalize upd (upd (upd H3 p2 (.tup (xs.drop (i+1)))) p3 (.tup [.int 1,.ref p2,.int (((kk+1:Nat):Int) - 1)])) A.du (.lst (zs++[.ref p3]))=H5 at W5 x5 ha5 hx5 ⊢
       obtain⟨_,_,ho5,_⟩:=W5.obj
       obtain⟨us,hus,ZG⟩:=W5.due
       have hul:us.length=ds.length+1:=by rw[ZG.len,ae,dJ,aM]
       have hfd:(fs.map jL)[i]?=some (jL x):=by rw[bq,hix];rfl
       obtain⟨vx,hvx,hdx⟩:=hx5.get' hfd
       obtain⟨c,rfl,hc⟩:=Dv.m8 (ns:=[(x.name:Int),if x.opt then 1 else 0,(x.of_:Int)]) hdx
       refine⟨_,rfl,wk,_,A.dx,_,_,rfl,ho5,T.cN,T.jM,rfl,.inl ⟨rfl,_,SqL.of hus⟩,?_⟩
       refine⟨_,rfl,_,rfl,a,xs,_,_,rfl,rfl,SqT.of ha5,aF hvx,c,_,_,_,rfl,rfl,SqT.of hc,aF (j:=2) rfl,(by show 2≤sizeLine;decide),fun p6 hp6=>?_⟩
       have s6:=bg.new (o:=.tup [.int 0,.int (x.of_:Nat)]) hp6
       refine⟨A.du,us,_,rfl,rfl,s6 _ _ hus,small _ (by omega),?_⟩
       refine k q [.msg x.of_,.fld (fs.drop (i+1)) kk] ?_ _ ((W5.same s6).Bc (ds':=.msg x.of_::.fld (fs.drop (i+1)) kk::ds) ?_) ((x5.trans (Ext.of_same s6)).trans (Ext.put (by simp)))
       ·show(oX fs n).map _=_
        rw[hnx,if_pos iX]
        rfl
       ·rw[pR,aJ]
        exact(ZG.keep (Kp.of_same s6)).append (.cons (GN aE) .nil)
      ·show(oX fs n).map _=_
       rw[hnx,iX,if_neg (by decide)]
       rfl
    ·have hc:inV (V.int (n:Nat)) ((fs.map fun f=>(f.name:Int)).map V.int)=false:=by
      rw[C9]
      cases e:(fs.map fun f=>(f.name:Int)).contains (n:Int) with
      | false=>rfl
      | true=>
        obtain⟨y,hy,e⟩:=ay.mp (lu.mp e)
        exact absurd ⟨y,hy,by omega⟩ hm
     refine ifT (by show(!inV _ _)=true;rw[hc];rfl) (ke ?_ H2 x2)
     show(oX fs n).map _=none
     rw[Oi fun y hy e=>hm ⟨y,hy,e⟩]
     rfl
   ·intro i v d H3 hv3 hd3 s3 Z W3 hZ
    refine⟨rfl,?_⟩
    obtain⟨d',hd',hdv⟩:=hx1.get hv3
    obtain⟨f,hf,rfl⟩:=cx hd'
    obtain⟨c,rfl,hc⟩:=Dv.m8 (ns:=[(f.name:Int),if f.opt then 1 else 0,(f.of_:Int)]) hdv
    rw[bq,bq,hf] at hd3
    obtain rfl:=aa hd3
    exact⟨_,rfl,c,_,_,_,rfl,rfl,SqT.of (s3 _ _ hc),aF (j:=0) rfl,hZ _ _ (bg.refl _) (.int _)⟩
end
end U
namespace U
open PySem PySem.Spec PyProof.Rows L2
open PySem.W (Codec)
open Ways KpFix KpWalk
section
variable {P:Program}{w:World}{K:ai}{mg:Str→Option Value}{base:Heap}{t:Adr}{C:Addr}
def D7:cp→Nat
 | .num _ _=>0
 | .text _=>1
 | .list _ _ _=>2
 | .record _=>3
 | .choice _=>4
def aal:cp→List D
 | .num lo hi=>[.i (lo:Int),.i (hi:Int)]
 | .text m=>[.i (m:Int)]
 | .list o lo hi=>[.i (o:Int),.i (lo:Int),.i (hi:Int)]
 | .record fs=>[.t (fs.map jL)]
 | .choice fs=>[.t (fs.map Vb)]
theorem UU (x:cp):kM x=.t (.i (D7 x:Int)::aal x):=by cases x<;>rfl
theorem RZ {x:cp}{r:bc}{p:Nat} (h:∀ q,r≠D7 x::q):kJ x r p=none:=by
 cases x<;>(unfold kJ;dsimp only;split;exact absurd rfl (h _);rfl)
theorem PY {x:cp}{r:bc}{p:Nat} (h:200 < p+1):kJ x r p=none:=by
 cases x<;>(unfold kJ;dsimp only;split;rw[if_neg (by omega)];rfl)
theorem T1 {S:Addr→Prop}{H:Hp}{o:Nat}:∀ {n:Nat}{ys:List V},bh S H ys (aj n (M4 (.msg o)))→bh no H ys ((aj n (KpWalk.Due.msg o)).map M4)
 | 0,ys,h=>by obtain rfl:=h.xK;exact .nil
 | n+1,ys,h=>by
   rw[cv] at h ⊢
   obtain⟨v,us,rfl,h1,h2⟩:=h.fB
   obtain⟨a,rfl,ha⟩:=Dv.m8 (ns:=[0,(o:Int)]) h1
   exact .cons (GN ha) (T1 h2)
def yo (t:Adr) (C:Addr):Sp:=fun vs H Q E=>Ex8 fun(wk:Addr) (A:WA) (b:ax) (r:bc) (p:Nat) (ds:List KpWalk.Due) (v:V) (x:cp)=>vs=[.ref wk,v]∧WAt t H wk A b r p ds∧Dj r ds∧Good x∧Dv no H v (kM x)∧
 (∀ q p' ds',kJ x r p=some (q,p',ds')→∀ H',WAt t H' wk A b q p' (ds'++ds)→Ext [wk,A.du] H H'→Q .non H')∧
 (kJ x r p=none→∀ H',Ext [wk,A.du] H H'→E (.ref C) none H')
theorem xJ (T:Txt K mg t) (TE:TxE K mg C):cI P w K mg base (CX1 P w C) 4 t.d9 t.fO ["self","form"] (yo t C):=by
 refine T.fY.okx kX (fun vs H Q E h=>by obtain⟨_,_,_,_,_,_,_,_,e,_⟩:=h;subst e;rfl) (fun cdv A outer s H vs Q E hr h=>?_)
 obtain⟨wk,A,b,r,p,ds,v,x,rfl,W,hfw,hg,hv,k,ke⟩:=h
 refine⟨_,(ak (cw (cn (pv 0) T.cN T.eU (dO T TE) (hr.mono (by decide)) T.eV .nil qp (ah (a9 aY (pv 1) aH (fun _ _=>rfl)) (ah (a9 aY (pv 1) aH (fun _ _=>rfl)) aq))))
  (ak (cw (cn (pv 0) T.cN T.vN (sS T TE) (hr.mono (by decide)) T.vV .nil qp (ah aH aq)))
  (aA (b9 (bo fe (a9 aY (pv 1) aH (fun _ _=>rfl)) (bz rfl T.qG T.qF) (bL _)) (aA (cw (cn (pv 0) T.cN T.eU (dO T TE) (hr.mono (by decide)) T.eV .nil qp (ah (a9 aY (pv 1) aH (fun _ _=>rfl)) (ah (a9 aY (pv 1) aH (fun _ _=>rfl)) aq))))) (aA (b9 (bo fe (a9 aY (pv 1) aH (fun _ _=>rfl)) (bz rfl T.oG T.oB) (bL _)) (aA (cw (cn (pv 0) T.cN T.Dz (zN T TE) (hr.mono (by decide)) T.DM .nil qp (ah (a9 aY (pv 1) aH (fun _ _=>rfl)) aq)))) (aA (b9 (bo fe (a9 aY (pv 1) aH (fun _ _=>rfl)) (bz rfl T.lX T.lU) (bL _)) (ak (bW (i:=2) kX.nd rfl (ba rfl) (cn (pv 0) T.cN T.eU (dO T TE) (hr.mono (by decide)) T.eV .nil qp (ah (a9 aY (pv 1) aH (fun _ _=>rfl)) (ah (a9 aY (pv 1) aH (fun _ _=>rfl)) aq))))
  (aA (cw (l5 aW i7 i6 vk (bI (pv 0) rfl) (ah (i4 HP (bX (ah (dG (ah (bz rfl T.vR T.vM) (ah (a9 aY (pv 1) aH (fun _ _=>rfl)) aq))) aq)) (pv 2)) aq))))) (aA (b9 (bo fe (a9 aY (pv 1) aH (fun _ _=>rfl)) (bz rfl T.jz T.jx) (bL _)) (ak (bW (i:=2) kX.nd rfl (ba rfl) (cn (pv 0) T.cN T.eU (dO T TE) (hr.mono (by decide)) T.eV .nil qp (ah aH (ah (dH cj (by rfl) T.nO cb (ah (a9 aY (pv 1) aH (fun _ _=>rfl)) aq)) aq))))
  (aA (cw (l5 aW bB bA d5 (bI (pv 0) rfl) (ah (dG (ah (bz rfl T.Pz T.Pq) (ah (a9 aY (pv 1) aH (fun _ _=>rfl)) (ah (pv 2) aq)))) aq))))) (aA (cw (cn (pv 0) T.cN T.BO (yH T TE) (hr.mono (by decide)) T.BX .nil qp (ah (a9 aY (pv 1) aH (fun _ _=>rfl)) aq)))))))))))))),?_⟩
 have mono:∀ {H1 H2:Hp},Ext [wk] H1 H2→Ext [wk,A.du] H1 H2:=fun x=>x.mono (fun y hy=>by rw[ag.mp hy];exact aI ..)
 obtain⟨r0,pl,ho,_⟩:=W.obj
 rw[UU] at hv
 obtain⟨a,xs,rfl,ha,hx⟩:=hv.tupI
 obtain⟨v0,us,rfl,hv0,hus⟩:=hx.fB
 obtain rfl:=hv0.z5
 refine⟨_,rfl,wk,A.dx,_,rfl,ho,rfl,_,rfl,a,_,_,_,rfl,rfl,SqT.of ha,aF (j:=0) rfl,_,rfl,a,_,_,_,rfl,rfl,SqT.of ha,aF (j:=0) rfl,wk,A,b,r,p,ds,_,_,rfl,W,fun g q hq h0 h1 H1 W1 x1=>?_,fun hx H1 x1=>ke (RZ fun q e=>hx _ q e ⟨Int.le_refl _,Int.le_refl _⟩) H1 (mono x1)⟩
 have hgt:g=D7 x:=by omega
 subst hgt
 obtain⟨_,_,ho1,_⟩:=W1.obj
 refine⟨_,rfl,wk,A.dx,_,rfl,ho1,rfl,wk,A,b,q,p,ds,1,rfl,W1,fun hp H2 W2 x2=>?_,fun hp H2 x2=>ke (PY hp) H2 (mono (x1.trans x2))⟩
 have x02:Ext [wk,A.du] H H2:=mono (x1.trans x2)
 have kp2:Kp no H H2:=Ext.kpT x02 W.noT
 have ha2:=kp2 _ _ ha (.inr ⟨_,rfl⟩)
 have uM:=hus.keep kp2
 subst hq
 clear W1 ho1 x1 x2 hus hx hv ho W
 unfold Dj at hfw
 rw[aM] at hfw
 obtain⟨_,_,ho2,_⟩:=W2.obj
 cases x with
 | num lo hi=>
   obtain⟨v1,us,rfl,h1,uM⟩:=uM.fB
   obtain⟨v2,us,rfl,h2,uM⟩:=uM.fB
   obtain rfl:=uM.xK
   obtain rfl:=h1.z5
   obtain rfl:=h2.z5
   refine⟨_,rfl,a,_,_,_,rfl,rfl,SqT.of ha2,aF (j:=0) rfl,rfl,_,rfl,nz rfl ?_⟩
   refine⟨_,rfl,wk,A.dx,_,rfl,ho2,rfl,_,rfl,a,_,_,_,rfl,rfl,SqT.of ha2,aF (j:=1) rfl,_,rfl,a,_,_,_,rfl,rfl,SqT.of ha2,aF (j:=2) rfl,wk,A,b,q,p+1,ds,_,_,rfl,W2,fun v z hz h0 h1 H3 W3 x3=>?_,fun hx H3 x3=>ke ?_ H3 (x02.trans (mono x3))⟩
   ·subst hz
    refine k z (p+1) [] ?_ H3 W3 (x02.trans (mono x3))
    show(if _ then _ else _)=_
    rw[if_pos ⟨hp,by omega,by omega⟩]
   ·cases q with
    | nil=>rfl
    | cons v z=>
      show(if _ then _ else _)=_
      rw[if_neg fun w=>hx v z rfl ⟨by omega,by omega⟩]
 | text m=>
   obtain⟨v1,us,rfl,h1,uM⟩:=uM.fB
   obtain rfl:=uM.xK
   obtain rfl:=h1.z5
   refine⟨_,rfl,a,_,_,_,rfl,rfl,SqT.of ha2,aF (j:=0) rfl,rfl,_,rfl,c5 (by simp only[D7];decide) ?_⟩
   refine⟨_,rfl,a,_,_,_,rfl,rfl,SqT.of ha2,aF (j:=0) rfl,rfl,_,rfl,nz rfl ?_⟩
   refine⟨_,rfl,wk,A.dx,_,rfl,ho2,rfl,_,rfl,a,_,_,_,rfl,rfl,SqT.of ha2,aF (j:=1) rfl,wk,A,b,q,p+1,ds,m,rfl,W2,fun n z hz h0 h1 h2 h3 H3 W3 x3=>?_,fun hx H3 x3=>ke ?_ H3 (x02.trans (mono x3))⟩
   ·subst hz
    refine k (z.drop n) (p+1+n) [] ?_ H3 W3 (x02.trans (mono x3))
    show(if _ then _ else _)=_
    rw[if_pos ⟨hp,h0,h1,h2,h3⟩]
   ·cases q with
    | nil=>rfl
    | cons n z=>
      show(if _ then _ else _)=_
      rw[if_neg fun w=>hx n z rfl w.2]
 | list o lo hi=>
   obtain⟨v1,us,rfl,h1,uM⟩:=uM.fB
   obtain⟨v2,us,rfl,h2,uM⟩:=uM.fB
   obtain⟨v3,us,rfl,h3,uM⟩:=uM.fB
   obtain rfl:=uM.xK
   obtain rfl:=h1.z5
   obtain rfl:=h2.z5
   obtain rfl:=h3.z5
   obtain⟨hlh,h32⟩:lo≤hi∧hi≤32:=hg
   refine⟨_,rfl,a,_,_,_,rfl,rfl,SqT.of ha2,aF (j:=0) rfl,rfl,_,rfl,c5 (by simp only[D7];decide) ?_⟩
   refine⟨_,rfl,a,_,_,_,rfl,rfl,SqT.of ha2,aF (j:=0) rfl,rfl,_,rfl,c5 (by simp only[D7];decide) ?_⟩
   refine⟨_,rfl,a,_,_,_,rfl,rfl,SqT.of ha2,aF (j:=0) rfl,rfl,_,rfl,nz rfl ?_⟩
   refine⟨_,rfl,wk,A.dx,_,rfl,ho2,rfl,_,rfl,a,_,_,_,rfl,rfl,SqT.of ha2,aF (j:=2) rfl,_,rfl,a,_,_,_,rfl,rfl,SqT.of ha2,aF (j:=3) rfl,wk,A,b,q,p+1,ds,_,_,rfl,W2,fun n z hz h0 h1 H3 W3 x3=>?_,fun hx H3 x3=>ke ?_ H3 (x02.trans (mono x3))⟩
   ·subst hz
    obtain⟨_,_,ho3,_⟩:=W3.obj
    obtain⟨zs,hzs,hzx⟩:=W3.due
    have hzl:zs.length=ds.length:=by rw[hzx.len,ae,dJ]
    have ha3:H3 a=some (.tup _):=(Ext.kpT (mono x3) W2.noT) _ _ ha2 (.inr ⟨_,rfl⟩)
    refine⟨_,rfl,wk,_,A.dx,_,_,rfl,ho3,T.cN,T.jM,rfl,.inl ⟨rfl,_,SqL.of hzs⟩,?_⟩
    refine⟨_,rfl,a,_,_,_,rfl,rfl,SqT.of ha3,aF (j:=1) rfl,mkT (S:=no) (ds:=[.i 0,.i (o:Int)]) (.cons (.int _) (.cons (.int _) .nil)) (show 2≤1000000 by decide) fun p1 s1 h1'=>?_⟩
    refine mkL (.cons h1' .nil) (show 1≤1000000 by decide) fun p2 s2 h2'=>?_
    refine⟨_,rfl,Ov h2' (by omega) fun H4 v4 s4 h4=>?_⟩
    obtain⟨a4,ys,rfl,_,ha4,hys⟩:=h4.wM
    have hyl:ys.length=n:=by rw[hys.len,aX]
    have s5:=(s1.trans s2).trans s4
    refine⟨A.du,a4,zs,ys,rfl,rfl,s5 _ _ hzs,ha4,jd (small _ (by rw[aM] at hfw;omega)),?_⟩
    refine k z (p+1) (aj n (.msg o)) ?_ _ ((W3.same s5).Bc (ds':=aj n (.msg o)++ds) ?_) (((x02.trans (mono x3)).trans (Ext.of_same s5)).trans (Ext.put (by simp)))
    ·show(if _ then _ else _)=_
     rw[if_pos ⟨hp,by omega,by omega⟩]
    ·rw[List.reverse_append,List.reverse_replicate,aJ]
     exact(hzx.keep (Kp.of_same s5)).append (T1 hys)
   ·cases q with
    | nil=>rfl
    | cons v z=>
      show(if _ then _ else _)=_
      rw[if_neg fun w=>hx v z rfl ⟨by omega,by omega⟩]
 | record fs=>
   obtain⟨v1,us,rfl,h1,uM⟩:=uM.fB
   obtain rfl:=uM.xK
   obtain⟨c,ys,rfl,hc,hys⟩:=h1.tupI
   have hyl:ys.length=fs.length:=by rw[hys.len,ae]
   refine⟨_,rfl,a,_,_,_,rfl,rfl,SqT.of ha2,aF (j:=0) rfl,rfl,_,rfl,c5 (by simp only[D7];decide) ?_⟩
   refine⟨_,rfl,a,_,_,_,rfl,rfl,SqT.of ha2,aF (j:=0) rfl,rfl,_,rfl,c5 (by simp only[D7];decide) ?_⟩
   refine⟨_,rfl,a,_,_,_,rfl,rfl,SqT.of ha2,aF (j:=0) rfl,rfl,_,rfl,c5 (by simp only[D7];decide) ?_⟩
   refine⟨_,rfl,a,_,_,_,rfl,rfl,SqT.of ha2,aF (j:=0) rfl,rfl,_,rfl,nz rfl ?_⟩
   refine⟨_,rfl,wk,A.dx,_,rfl,ho2,rfl,_,rfl,a,_,_,_,rfl,rfl,SqT.of ha2,aF (j:=1) rfl,c,_,rfl,.inr (SqT.of hc),wk,A,b,q,p+1,ds,0,_,rfl,W2,fun n z hz h0 h1' H3 W3 x3=>?_,fun hx H3 x3=>ke ?_ H3 (x02.trans (mono x3))⟩
   ·subst hz
    obtain⟨_,_,ho3,_⟩:=W3.obj
    obtain⟨zs,hzs,hzx⟩:=W3.due
    have hzl:zs.length=ds.length:=by rw[hzx.len,ae,dJ]
    have kp3:=Ext.kpT (mono x3) W2.noT
    have ha3:H3 a=some (.tup _):=kp3 _ _ ha2 (.inr ⟨_,rfl⟩)
    refine⟨_,rfl,wk,_,A.dx,_,_,rfl,ho3,T.cN,T.jM,rfl,.inl ⟨rfl,_,SqL.of hzs⟩,?_⟩
    refine⟨_,rfl,a,_,_,_,rfl,rfl,SqT.of ha3,aF (j:=1) rfl,_,rfl,(by show 3≤sizeLine;decide),fun p1 hp1=>?_⟩
    have s1:=bg.new (o:=.tup [.int 1,.ref c,.int (n:Nat)]) hp1
    refine⟨A.du,zs,_,rfl,rfl,s1 _ _ hzs,small _ (by rw[aM] at hfw;omega),?_⟩
    refine k z (p+1) [.fld fs n] ?_ _ ((W3.same s1).Bc (ds':=.fld fs n::ds) ?_) (((x02.trans (mono x3)).trans (Ext.of_same s1)).trans (Ext.put (by simp)))
    ·show(if _ then _ else _)=_
     rw[if_pos ⟨hp,by omega⟩]
    ·rw[pR,aJ]
     refine(hzx.keep (Kp.of_same s1)).append (.cons (.tup aE (.cons (.int _) (.cons ?_ (.cons (.int _) .nil)))) .nil)
     exact(h1.keep kp3).keep (Kp.of_same s1)
   ·cases q with
    | nil=>rfl
    | cons v z=>
      show(if _ then _ else _)=_
      rw[if_neg fun w=>hx v z rfl ⟨by omega,by omega⟩]
 | choice fs=>
   obtain⟨v1,us,rfl,h1,uM⟩:=uM.fB
   obtain rfl:=uM.xK
   refine⟨_,rfl,a,_,_,_,rfl,rfl,SqT.of ha2,aF (j:=0) rfl,rfl,_,rfl,c5 (by simp only[D7];decide) ?_⟩
   refine⟨_,rfl,a,_,_,_,rfl,rfl,SqT.of ha2,aF (j:=0) rfl,rfl,_,rfl,c5 (by simp only[D7];decide) ?_⟩
   refine⟨_,rfl,a,_,_,_,rfl,rfl,SqT.of ha2,aF (j:=0) rfl,rfl,_,rfl,c5 (by simp only[D7];decide) ?_⟩
   refine⟨_,rfl,a,_,_,_,rfl,rfl,SqT.of ha2,aF (j:=0) rfl,rfl,_,rfl,c5 (by simp only[D7];decide) ?_⟩
   refine⟨_,rfl,wk,A.dx,_,rfl,ho2,rfl,_,rfl,a,_,_,_,rfl,rfl,SqT.of ha2,aF (j:=1) rfl,wk,A,b,q,p+1,ds,_,fs,rfl,W2,(by unfold Dj;omega),h1,fun n z f hz hf H3 W3 x3=>?_,fun hx H3 x3=>ke ?_ H3 (x02.trans x3)⟩
   ·subst hz
    refine k z (p+1) [.msg f.of_] ?_ H3 W3 (x02.trans x3)
    show(if _ then _ else _)=_
    rw[if_pos hp,hf]
    rfl
   ·cases q with
    | nil=>rfl
    | cons n z=>
      show(if _ then _ else _)=_
      rw[if_pos hp,hx n z rfl]
      rfl
end
end U
namespace KpWalk
open Kp190
def Rx (b:Book):Due→Prop
 | .msg t=>t < b.length
 | .fld fs _=>fs.length≤8∧∀ f∈fs,f.of_ < b.length
theorem EW {b:Book} (hc:closed b=true) {x:Form} (hx:x∈b) {n:Nat} (hn:n∈refers x):n < b.length:=by
 have:=bQ.mp (bQ.mp hc x hx) n hn
 exact of_decide_eq_true this
theorem Te {b:Book} (hc:closed b=true):∀ {x:Form},x∈b→(∀ fs,x=.record fs→fs.length≤8)→∀ {r:Row}{p:Nat}{q:Row}{p':Nat}{ds:List Due},kJ x r p=some (q,p',ds)→∀ d∈ds,Rx b d
 | .num lo hi,hx,h8,r,p,q,p',ds,h,d,hd=>by
   unfold kJ at h
   dsimp only at h
   split at h
   ·split at h
    ·cases h
     cases hd
    ·cases h
   ·cases h
 | .text most,hx,h8,r,p,q,p',ds,h,d,hd=>by
   unfold kJ at h
   dsimp only at h
   split at h
   ·split at h
    ·cases h
     cases hd
    ·cases h
   ·cases h
 | .list o lo hi,hx,h8,r,p,q,p',ds,h,d,hd=>by
   unfold kJ at h
   dsimp only at h
   split at h
   ·split at h
    ·cases h
     rw[(oR.mp hd).2]
     exact EW hc hx (ag.mpr rfl)
    ·cases h
   ·cases h
 | .record fs,hx,h8,r,p,q,p',ds,h,d,hd=>by
   unfold kJ at h
   dsimp only at h
   split at h
   ·split at h
    ·cases h
     rw[ag.mp hd]
     exact⟨h8 fs rfl,fun f hf=>EW hc hx (ay.mpr ⟨f,hf,rfl⟩)⟩
    ·cases h
   ·cases h
 | .choice fs,hx,h8,r,p,q,p',ds,h,d,hd=>by
   unfold kJ at h
   dsimp only at h
   split at h
   ·split at h
    ·obtain⟨x,hf,hs⟩:=KpRead.map_some h
     cases hs
     rw[ag.mp hd]
     exact EW hc hx (ay.mpr ⟨x,eW hf,rfl⟩)
    ·cases h
   ·cases h
theorem Ld:∀ {fs:List Field}{n:Nat}{x:Field}{gs:List Field},oX fs n=some (x,gs)→x∈fs∧gs.length≤fs.length∧∀ g∈gs,g∈fs
 | [],n,x,gs,h=>by cases h
 | f::fs,n,x,gs,h=>by
   unfold oX at h
   split at h
   ·cases h
    exact⟨aI ..,Nat.le_succ _,fun g hg=>aG _ hg⟩
   ·split at h
    ·obtain⟨h1,h2,h3⟩:=Ld h
     exact⟨aG _ h1,Nat.le_succ_of_le h2,fun g hg=>aG _ (h3 g hg)⟩
    ·cases h
theorem Tf {b:Book}{fs:List Field}{k:Nat} (hd:Rx b (.fld fs k)) {r q:Row}{ds:List Due} (h:Hd fs k r=some (q,ds)):∀ d∈ds,Rx b d:=by
 intro d hm
 unfold Hd at h
 split at h
 ·split at h
  ·cases h
   cases hm
  ·cases h
 ·obtain⟨⟨x,gs⟩,hx,hs⟩:=KpRead.map_some h
  cases hs
  obtain⟨h1,h2,h3⟩:=Ld hx
  simp only[aC,bN,or_false] at hm
  rcases hm with rfl | rfl
  ·exact hd.2 x h1
  ·exact⟨bP h2 hd.1,fun g hg=>hd.2 g (h3 g hg)⟩
 ·cases h
end KpWalk
namespace U
open PySem PySem.Spec PyProof.Rows L2
open PySem.W (Codec)
open Ways KpFix KpWalk
section
variable {P:Program}{w:World}{K:ai}{mg:Str→Option Value}{base:Heap}{t:Adr}{C:Addr}
theorem Lv {b:ax}{n:Nat} (h:n < b.length):qP b n∈b:=by
 unfold qP
 rw[cf,aK h]
 exact List.getElem_mem h
def Eb (t:Adr) (C:Addr):Sp:=fun vs H Q E=>Ex5 fun(wk:Addr) (A:WA) (b:ax) (r:bc) (n:Nat)=>vs=[.ref wk,.int n]∧WAt t H wk A b r 0 []∧33 * r.length≤998000∧n < b.length∧cM b=true∧(∀ x∈b,Good x)∧
 (Win b [.msg n] r 0→∀ H',Ext [wk,A.du] H H'→Q .non H')∧(¬ Win b [.msg n] r 0→∀ H',Ext [wk,A.du] H H'→E (.ref C) none H')
theorem CI (T:Txt K mg t) (TE:TxE K mg C):cI P w K mg base (CX1 P w C) 5 t.il t.jV ["self","number"] (Eb t C):=by
 refine T.j4.okx u1 (fun vs H Q E h=>by obtain⟨_,_,_,_,_,e,_⟩:=h;subst e;rfl) (fun cdv A outer s H vs Q E hr h=>?_)
 obtain⟨wk,A,b,r,n,rfl,W,hlen,hn,hcl,hg,k,ke⟩:=h
 refine⟨_,(ak (cw (l5 aW bB bA d5 (bI (pv 0) rfl) (ah (dG (ah (bz rfl T.vR T.vM) (ah (pv 1) aq))) aq)))
  (ak (HE VO (bo ve (dH cj (by rfl) T.nO cb (ah (bI (pv 0) rfl) aq)) aH (bL _)) (ak (bW (i:=2) u1.nd rfl (ba rfl) (TH aW PySem.F.slot_list_pop PySem.F.type_list_pop TY (bI (pv 0) rfl)))
  (aA (b9 (bo fe (a9 aY (pv 2) aH (fun _ _=>rfl)) (bz rfl T.vR T.vM) (bL _)) (aA (cw (cn (pv 0) T.cN T.z9 (xJ T TE) (hr.mono (by decide)) T.Ap .nil qp (ah (a9 fj (bI (pv 0) rfl) (a9 aY (pv 2) aH (fun _ _=>rfl)) (fun _ _=>rfl)) aq)))) (aA (cw (cn (pv 0) T.cN T.BN (yG T TE) (hr.mono (by decide)) T.BW .nil qp (ah (a9 aY (pv 2) aH (fun _ _=>rfl)) (ah (a9 aY (pv 2) aH (fun _ _=>rfl)) aq)))))))))
  (aA (b9 (bo Ff (bI (pv 0) rfl) (dH cj (by rfl) T.nO cb (ah (bI (pv 0) rfl) aq)) (bL _)) (aA (sP rfl TE.G TE.X)) bp)))),?_⟩
 obtain⟨_,_,ho,_⟩:=W.obj
 obtain⟨zs,hz,hzx⟩:=W.due
 have hz0:zs=[]:=hzx.xK
 subst hz0
 refine⟨_,rfl,wk,_,A.dx,_,_,rfl,ho,T.cN,T.jM,rfl,.inl ⟨rfl,_,SqL.of hz⟩,_,rfl,(by show 2≤sizeLine;decide),fun p1 hp1=>?_⟩
 have s1:=bg.new (o:=.tup [.int 0,.int (n:Nat)]) hp1
 refine⟨A.du,[],_,rfl,rfl,s1 _ _ hz,small _ (by decide),?_⟩
 have W1:=(W.same s1).Bc (ds':=[.msg n]) (ys:=[.ref p1]) (.cons (GN aE) .nil)
 have x1:Ext [wk,A.du] H (upd (upd H p1 (.tup [.int 0,.int (n:Nat)])) A.du (.lst ([]++[.ref p1]))):=(Ext.of_same s1).trans (Ext.put (by simp))
 have W1:WAt t (upd (upd H p1 (.tup [.int 0,.int (n:Nat)])) A.du (.lst ([]++[.ref p1]))) wk A b r 0 [.msg n]:=W1
 generalize upd (upd H p1 (.tup [.int 0,.int (n:Nat)])) A.du (.lst ([]++[.ref p1]))=H1 at W1 x1 ⊢
 refine⟨fun m σ Hi=>∃ x rr p ds,σ=[some (.ref wk),some (.int (n:Nat)),x]∧WAt t Hi wk A b rr p ds∧(Win b [.msg n] r 0↔Win b ds rr p)∧Dj rr ds∧p≤200∧(∀ d∈ds,Rx b d)∧Ext [wk,A.du] H Hi∧m=33 * rr.length+ds.length,
  ⟨_,_,r,0,[.msg n],rfl,W1,Iff.rfl,by unfold Dj;simp only[aM,cR];omega,by omega,fun d hd=>by rw[ag.mp hd];exact hn,x1,rfl⟩,?_⟩
 rintro m σ Hi ⟨x,rr,p,ds,rfl,Wi,hw,hfw,hp,hok,xi,hm⟩
 obtain⟨r0,pl,hoi,hnu,hpl,hdr⟩:=Wi.obj
 obtain⟨xs,hd,hdx⟩:=Wi.due
 have hxl:xs.length=ds.length:=by rw[hdx.len,ae,dJ]
 refine⟨_,rfl,wk,_,A.dx,_,_,rfl,hoi,T.cN,T.jM,rfl,A.du,_,rfl,.inl (SqL.of hd),_,_,rfl,rfl,_,rfl,?_⟩
 cases ds with
 | nil=>
   refine ifF (decide_eq_false (by rw[hxl,cR];decide)) ?_
   refine⟨_,rfl,wk,_,A.dx,_,_,rfl,hoi,T.cN,T.lV,rfl,_,rfl,wk,_,A.dx,_,_,rfl,hoi,T.cN,T.oC,rfl,A.nu,_,rfl,.inl (SqL.of hnu),_,_,rfl,rfl,_,rfl,?_⟩
   have hnl:(nV r0).length=r0.length:=by unfold nV nI;rw[ae,ae]
   have hwe:=hw.trans (Vu b rr p hp)
   by_cases e:rr=[]
   ·have:r0.length≤pl:=by
     rw[e] at hdr
     exact List.drop_eq_nil_iff.mp hdr
    exact ifF (decide_eq_false (by rw[hnl];omega)) (k (hwe.mpr e) Hi xi)
   ·have:pl < r0.length:=by
     by_cases z:pl < r0.length
     ·exact z
     ·exact absurd (by rw[← hdr];exact gZ (by omega)) e
    exact ifT (decide_eq_true (by rw[hnl];omega)) (ke (fun z=>e (hwe.mp z)) Hi xi)
 | cons d ds=>
   refine ifT (decide_eq_true (by rw[hxl,aM];omega)) ?_
   refine⟨_,fun σ' H' h=>h,?_⟩
   rw[pR,aJ] at hdx
   have UA:((ds.reverse.map M4)++[M4 d])[xs.length - 1]?=some (M4 d):=by
    rw[hxl,aM,uS,cB (by rw[ae,dJ];exact aB _),ae,dJ,mZ]
    rfl
   obtain⟨vd,hvd,hdd⟩:=hdx.get' UA
   refine⟨_,rfl,wk,_,A.dx,_,_,rfl,hoi,T.cN,T.jM,rfl,.inl ⟨rfl,_,SqL.of hd⟩,A.du,xs,_,rfl,rfl,hd,hvd,?_⟩
   have W2:=Wi.Bc (ds':=ds) (ys:=xs.dropLast) (by
    have h1:=hdx.take (xs.length - 1)
    rw[← List.dropLast_eq_take,hxl,aM,uS,List.take_left' (by rw[ae,dJ])] at h1
    exact h1)
   have x2:Ext [wk,A.du] H (upd Hi A.du (.lst xs.dropLast)):=xi.trans (Ext.put (by simp))
   have Ya:Dv no (upd Hi A.du (.lst xs.dropLast)) vd (M4 d):=hdd.keep (Kp.put hd (fun _ z=>by cases z) id)
   generalize upd Hi A.du (.lst xs.dropLast)=H2 at W2 x2 Ya ⊢
   unfold Dj at hfw
   rw[aM] at hfw hm
   obtain⟨_,_,ho2,_⟩:=W2.obj
   cases d with
   | msg tt=>
     have htt:tt < b.length:=hok _ (aI ..)
     obtain⟨c,rfl,hc⟩:=Dv.m8 (ns:=[0,(tt:Int)]) Ya
     obtain⟨bs,hb,hbx⟩:=W2.book
     obtain⟨vf,hvf,hdf⟩:=hbx.get' (IL htt)
     have hgx:=hg _ (Lv htt)
     refine⟨_,rfl,c,_,_,_,rfl,rfl,SqT.of hc,aF (j:=0) rfl,rfl,_,rfl,nz rfl ?_⟩
     refine⟨_,rfl,wk,A.dx,_,rfl,ho2,rfl,_,rfl,wk,_,A.dx,_,_,rfl,ho2,T.cN,T.Fy,rfl,_,rfl,c,_,_,_,rfl,rfl,SqT.of hc,aF (j:=1) rfl,A.l,bs,_,_,rfl,rfl,SqL.of hb,aF hvf,wk,A,b,rr,p,ds,vf,qP b tt,rfl,W2,by unfold Dj;omega,hgx,hdf,fun q p' ds' hs H3 W3 x3=>?_,fun hs H3 x3=>ke (fun z=>?_) H3 (x2.trans x3)⟩
     ·have hl:=PZ (fun o lo hi e=>by rw[e] at hgx;exact hgx.2) hs
      have Sr:=Te hcl (Lv htt) (fun fs e=>by rw[e] at hgx;exact hgx.1) hs
      refine⟨_,?_,_,q,p',ds'++ds,rfl,W3,?_,?_,hl.2,fun d hd=>(az.mp hd).elim (Sr d) fun h=>hok d (aG _ h),x2.trans x3,rfl⟩
      ·rw[au];omega
      ·rw[hw,Wy]
       constructor
       ·rintro⟨q2,p2,ds2,e,h⟩
        rw[hs] at e
        cases e
        exact h
       ·exact fun h=>⟨q,p',ds',hs,h⟩
      ·unfold Dj;rw[au];omega
     ·obtain⟨q,p',ds',e,_⟩:=Wy.mp (hw.mp z)
      rw[hs] at e
      cases e
   | fld fs kk=>
     have hdo:=hok _ (aI ..)
     obtain⟨c,us,rfl,hc,hus⟩:=Ya.tupI
     obtain⟨v0,us,rfl,h0,hus⟩:=hus.fB
     obtain⟨v1,us,rfl,h1,hus⟩:=hus.fB
     obtain⟨v2,us,rfl,h2,hus⟩:=hus.fB
     obtain rfl:=hus.xK
     obtain rfl:=h0.z5
     obtain rfl:=h2.z5
     refine⟨_,rfl,c,_,_,_,rfl,rfl,SqT.of hc,aF (j:=0) rfl,rfl,_,rfl,c5 (by decide) ?_⟩
     refine⟨_,rfl,wk,A.dx,_,rfl,ho2,rfl,_,rfl,c,_,_,_,rfl,rfl,SqT.of hc,aF (j:=1) rfl,_,rfl,c,_,_,_,rfl,rfl,SqT.of hc,aF (j:=2) rfl,wk,A,b,rr,p,ds,v1,fs,kk,rfl,W2,by unfold Dj;omega,hdo.1,h1,fun q ds' hs H3 W3 x3=>?_,fun hs H3 x3=>ke (fun z=>?_) H3 (x2.trans x3)⟩
     ·have hl:=P0 hs
      have Sr:=Tf hdo hs
      refine⟨_,?_,_,q,p,ds'++ds,rfl,W3,?_,?_,hp,fun d hd=>(az.mp hd).elim (Sr d) fun h=>hok d (aG _ h),x2.trans x3,rfl⟩
      ·rw[au];omega
      ·rw[hw,Wz]
       constructor
       ·rintro⟨q2,ds2,e,h⟩
        rw[hs] at e
        cases e
        exact h
       ·exact fun h=>⟨q,ds',hs,h⟩
      ·unfold Dj;rw[au];omega
     ·obtain⟨q,ds',e,_⟩:=Wz.mp (hw.mp z)
      rw[hs] at e
      cases e
end
end U
namespace U
open PySem PySem.Spec PyProof.Rows L2
open PySem.W (Codec)
open Ways KpFix KpWalk
section
variable {P:Program}{w:World}{K:ai}{mg:Str→Option Value}{base:Heap}{t:Adr}{C:Addr}
def L8 (t:Adr):Sp:=fun vs H Q _=>Ex6 fun(wk dx l nu:Addr) (b:ax) (r0:bc)=>vs=[.ref wk,.ref l,.ref nu]∧H wk=some (.ins t.bZ dx [])∧w8 H l b∧H nu=some (.lst (nV r0))∧
 ∀ H' du,WAt t H' wk ⟨dx,l,nu,du⟩ b r0 0 []→H du=none→Ext [wk] H H'→Q .non H'
theorem My (T:Txt K mg t):cI P w K mg base CX0 1 t.nM t.qD ["self","told","numbers"] (L8 t):=by
 refine T.um.ok Ma (fun vs H Q E h=>by obtain⟨_,_,_,_,_,_,e,_⟩:=h;subst e;rfl) (fun cdv A outer s H vs Q E hr h=>?_)
 obtain⟨wk,dx,l,nu,b,r0,rfl,ho,hb,hn,k⟩:=h
 refine⟨_,(ak (gm (pv 0) (pv 1) rfl)
  (ak (gm (pv 0) (pv 2) rfl)
  (ak (gm (pv 0) aH rfl)
  (ak (gm (pv 0) aH rfl)
  (aA (gm (pv 0) (bX aq) rfl)))))),?_⟩
 refine⟨_,rfl,_,rfl,wk,_,dx,_,rfl,ho,T.cN,T.Fy,(by show 0 < 1000;decide),?_⟩
 refine⟨_,rfl,_,rfl,wk,_,dx,_,rfl,aE,T.cN,T.oC,(by show 1 < 1000;decide),?_⟩
 refine⟨_,rfl,wk,_,dx,_,rfl,aE,T.cN,T.lV,(by show 2 < 1000;decide),?_⟩
 refine⟨_,rfl,wk,_,dx,_,rfl,aE,T.cN,T.se,(by show 3 < 1000;decide),?_⟩
 refine⟨aT _,fun du hdu=>?_⟩
 have QA:H du=none:=dz _ (dz _ (dz _ (dz _ hdu)))
 have nw1:wk≠du:=bf ho QA
 refine⟨_,rfl,wk,_,dx,_,rfl,bg.new hdu _ _ aE,T.cN,T.jM,(by show 4 < 1000;decide),?_⟩
 have keep:∀ a o,H a=some o→a≠wk→upd (upd (upd (upd (upd (upd H wk (.ins t.bZ dx [("told",.ref l)])) wk (.ins t.bZ dx [("told",.ref l),("numbers",.ref nu)])) wk (.ins t.bZ dx [("told",.ref l),("numbers",.ref nu),("place",.int 0)])) wk (.ins t.bZ dx [("told",.ref l),("numbers",.ref nu),("place",.int 0),("parts",.int 0)])) du (.lst [])) wk (.ins t.bZ dx (wf ⟨dx,l,nu,du⟩ 0 0)) a=some o:=fun a o h ne=>by
  rw[aN ne,aN (bf h QA),aN ne,aN ne,aN ne,aN ne]
  exact h
 have neL:∀ {a xs},H a=some (.lst xs)→a≠wk:=fun h=>cu h ho (by intro z;cases z)
 have neT:∀ {a xs},H a=some (.tup xs)→a≠wk:=fun h=>cu h ho (by intro z;cases z)
 refine k (upd (upd (upd (upd (upd (upd H wk (.ins t.bZ dx [("told",.ref l)])) wk (.ins t.bZ dx [("told",.ref l),("numbers",.ref nu)])) wk (.ins t.bZ dx [("told",.ref l),("numbers",.ref nu),("place",.int 0)])) wk (.ins t.bZ dx [("told",.ref l),("numbers",.ref nu),("place",.int 0),("parts",.int 0)])) du (.lst [])) wk (.ins t.bZ dx (wf ⟨dx,l,nu,du⟩ 0 0))) du ⟨⟨r0,0,aE,keep _ _ hn (neL hn),aT _,rfl⟩,⟨[],by rw[aN (br nw1),aE],.nil⟩,?_,?_,?_⟩ QA (fun a o h m=>keep a o h (by simpa using m))
 ·obtain⟨bs,hb,hbx⟩:=hb
  exact⟨bs,keep _ _ hb (neL hb),iD (fun a xs h=>keep a _ h (neT h)) (fun a xs _ h=>keep a _ h (neL h)) _ _ hbx⟩
 ·exact fun z=>by rw[← show du=nu from z] at hn;rw[hn] at QA;cases QA
 ·obtain⟨bs,hb,_⟩:=hb
  exact fun z=>by rw[← show du=l from z] at hb;rw[hb] at QA;cases QA
def JF:Sp:=fun vs H Q _=>Ex5 fun(l nu:Addr) (b:ax) (n:Nat) (r0:bc)=>vs=[.ref l,.int n,.ref nu]∧w8 H l b∧H nu=some (.lst (nV r0))∧33 * r0.length≤998000∧n < b.length∧cM b=true∧(∀ x∈b,Good x)∧
 ∀ H',bg H H'→Q (.bl (ye b n r0)) H'
theorem J5 (T:Txt K mg t) (TE:TxE K mg C):cI P w K mg base CX0 6 t.lM t.oj ["told","number","numbers"] JF:=by
 refine T.oI.ok JQ (fun vs H Q E h=>by obtain⟨_,_,_,_,_,e,_⟩:=h;subst e;rfl) (fun cdv A outer s H vs Q E hr h=>?_)
 obtain⟨l,nu,b,n,r0,rfl,hb,hn,hlen,hnb,hcl,hg,k⟩:=h
 let EX:XK:=fun _ _ H'=>Q (.bl false) H'
 refine⟨_,(ak (Xt (E:=EX) rfl rfl rfl TE.G TE.X (fun _=>PassesOwnAt.never) (fun _=>(aA (cw (cn (zf T.YC (My T) (hr.mono (by decide)) rfl T.YF T.PF .nil bw (ah (pv 0) (ah (pv 2) aq))) T.cN T.Gu (CI T TE) (hr.mono (by decide)) T.GC .nil VN (ah (pv 1) aq))))))
  (aA (a6 xq))),?_⟩
 refine⟨?_,fun H' h=>h⟩
 refine⟨_,rfl,_,rfl,fun wk dx hwk hdx hne=>?_⟩
 have s1:bg H (upd (upd H dx (.own wk)) wk (.ins t.bZ dx [])):=(bg.new hdx).trans (bg.new (by rw[aN (br hne)];exact hwk))
 have o1:upd (upd H dx (.own wk)) wk (.ins t.bZ dx []) wk=some (.ins t.bZ dx []):=aE
 have n1:∀ a,upd (upd H dx (.own wk)) wk (.ins t.bZ dx []) a=none→H a=none:=fun a h=>dz a (dz a h)
 generalize upd (upd H dx (.own wk)) wk (.ins t.bZ dx [])=H1 at s1 o1 n1 ⊢
 have hb1:w8 H1 l b:=hb.keep fun a o h _=>s1 _ _ h
 refine⟨wk,dx,l,nu,b,r0,rfl,o1,hb1,s1 _ _ hn,fun H2 du W2 hdu x2=>⟨rfl,?_⟩⟩
 obtain⟨_,_,ho2,_⟩:=W2.obj
 have same:∀ {H3:Hp},Ext [wk,du] H2 H3→bg H H3:=fun {H3} x3 a o h=>by
  have nea:a≠wk:=bf h hwk
  have ned:a≠du:=bf h (n1 du hdu)
  exact x3 a o (x2 a o (s1 _ _ h) (by simpa using nea)) (by simp[nea,ned])
 refine⟨wk,dx,_,rfl,ho2,rfl,_,rfl,wk,⟨dx,l,nu,du⟩,b,r0,n,rfl,W2,hlen,hnb,hcl,hg,fun hw H3 x3=>?_,fun hw H3 x3=>?_⟩
 ·have:=k H3 (same x3)
  rw[(KN b n r0).mpr hw] at this
  exact this
 ·have:=k H3 (same x3)
  have e:ye b n r0=false:=by
   cases e:ye b n r0 with
   | false=>rfl
   | true=>exact absurd ((KN b n r0).mp e) hw
  rw[e] at this
  exact this
end
end U
namespace U
open PySem PySem.Spec PyProof.Rows L2
open PySem.W (Codec)
def rf (a:Addr) (p:Int):List (Str×V):=[("calls",.ref a),("place",.int p)]
def dt (t:Adr) (H:Hp) (r a:Addr) (p:Int):Prop:=∃ dx,H r=some (.ins t.c8 dx (rf a p))
section
variable {P:Program}{w:World}{K:ai}{mg:Str→Option Value}{base:Heap}{t:Adr}
def Hq (t:Adr):Sp:=fun vs H Q _=>Ex3 fun(r a dx:Addr)=>vs=[.ref r,.ref a]∧H r=some (.ins t.c8 dx [])∧∀ H',dt t H' r a 0→Ext [r] H H'→Q .non H'
theorem HY (T:Txt K mg t):cI P w K mg base CX0 1 t.kx t.mQ ["self","calls"] (Hq t):=by
 refine T.pZ.ok Hu (fun vs H Q E h=>?_) (fun cdv A outer s H vs Q E hr h=>?_)
 ·obtain⟨r,a,dx,rfl,_⟩:=h
  rfl
 ·obtain⟨r,a,dx,rfl,hp,k⟩:=h
  refine⟨_,(ak (gm (pv 0) (pv 1) rfl)
   (aA (gm (pv 0) aH rfl))),?_⟩
  refine⟨_,rfl,_,rfl,r,_,dx,_,rfl,hp,T.cC,T.oE,(by show 0 < 1000;decide),?_⟩
  refine⟨_,rfl,r,_,dx,_,rfl,aE,T.cC,T.fh,(by show 1 < 1000;decide),?_⟩
  exact k _ ⟨dx,aE⟩ fun b o e hb=>by
   rw[aN (by simpa using hb),aN (by simpa using hb)];exact e
def AY (K:ai) (t:Adr):Sp:=fun vs H Q _=>Ex4 fun(r a:Addr) (p:Nat) (ns:List Int)=>vs=[.ref r]∧dt t H r a p∧y9 K H a (ns.map V.int)∧Q (.bl (decide (p < ns.length))) H
theorem Bt (T:Txt K mg t):cI P w K mg base CX0 1 t.fu t.iH ["self"] (AY K t):=by
 refine T.iQ.ok Bd (fun vs H Q E h=>?_) (fun cdv A outer s H vs Q E hr h=>?_)
 ·obtain⟨r,a,p,ns,rfl,_⟩:=h
  rfl
 ·obtain⟨r,a,p,ns,rfl,⟨dx,hp⟩,hS,k⟩:=h
  refine⟨_,(aA (a6 (Mu Ff (bI (pv 0) rfl) (dH cj (by rfl) T.nO cb (ah (bI (pv 0) rfl) aq)) (bL _)))),?_⟩
  refine⟨_,rfl,r,_,dx,_,_,rfl,hp,T.cC,T.fh,rfl,?_⟩
  refine⟨_,rfl,r,_,dx,_,_,rfl,hp,T.cC,T.oE,rfl,?_⟩
  refine⟨_,_,rfl,.inl hS.sq,_,_,rfl,rfl,?_⟩
  rw[ae]
  show Q (.bl (decide ((p:Int) < (ns.length:Int)))) H
  rw[show decide ((p:Int) < (ns.length:Int))=decide (p < ns.length) from by simp]
  exact k
def u0 (K:ai) (t:Adr):Sp:=fun vs H Q _=>Ex5 fun(r a:Addr) (p:Nat) (ns:List Int) (x:Int)=>vs=[.ref r]∧dt t H r a p∧y9 K H a (ns.map V.int)∧ns[p]?=some x∧∀ H',dt t H' r a (p+1:Nat)→Ext [r] H H'→Q (.int x) H'
theorem cG (T:Txt K mg t):cI P w K mg base CX0 1 t.fF t.iu ["self"] (u0 K t):=by
 refine T.j8.ok u4 (fun vs H Q E h=>?_) (fun cdv A outer s H vs Q E hr h=>?_)
 ·obtain⟨r,a,p,ns,x,rfl,_⟩:=h
  rfl
 ·obtain⟨r,a,p,ns,x,rfl,⟨dx,hp⟩,hS,hx,k⟩:=h
  refine⟨_,(ak (bW (i:=1) u4.nd rfl (ba rfl) (a9 fj (bI (pv 0) rfl) (bI (pv 0) rfl) (fun _ _=>rfl)))
   (ak (gm (pv 0) (i4 pF (bI (pv 0) rfl) aH) rfl)
   (aA (a6 (pv 1))))),?_⟩
  refine⟨_,rfl,r,_,dx,_,_,rfl,hp,T.cC,T.oE,rfl,?_⟩
  refine⟨_,rfl,r,_,dx,_,_,rfl,hp,T.cC,T.fh,rfl,?_⟩
  refine⟨_,_,_,_,rfl,rfl,hS.sq,aF (v:=.int x) (by rw[bq,hx];rfl),?_⟩
  refine⟨_,rfl,r,_,dx,_,_,rfl,hp,T.cC,T.fh,rfl,_,_,rfl,rfl,?_⟩
  refine⟨_,rfl,r,_,dx,_,rfl,hp,T.cC,T.fh,(by show 2 < 1000;decide),?_⟩
  refine⟨_,rfl,?_⟩
  exact k _ ⟨dx,aE⟩ fun b o e hb=>by
   rw[aN (by simpa using hb)];exact e
def JK (K:ai) (t:Adr):Sp:=fun vs H Q _=>Ex6 fun(r a:Addr) (p:Nat) (ns row tl:List Int)=>vs=[.ref r]∧dt t H r a p∧y9 K H a (ns.map V.int)∧ns.drop p=(row.length:Int)::(row++tl)∧
 ∀ H' l,dt t H' r a (p+1+row.length:Nat)→H' l=some (.lst (row.map V.int))→H l=none→Ext [r] H H'→Q (.ref l) H'
theorem cy {α:Type}{l:List α}{p:Nat}{x:α}{r:List α} (h:l.drop p=x::r):l[p]?=some x∧l.drop (p+1)=r∧p < l.length:=by
 have h1:(l.drop p)[0]?=some x:=by rw[h];rfl
 rw[List.getElem?_drop,m7] at h1
 refine⟨h1,?_,(aP.mp h1).1⟩
 have:(l.drop p).drop 1=r:=by rw[h];rfl
 rw[BY] at this
 exact this
theorem uG (T:Txt K mg t):cI P w K mg base CX0 2 t.lQ t.ot ["self"] (JK K t):=by
 have Gz:cI P w K mg base CX0 1 t.fF t.iu ["self"] (u0 K t):=cG T
 refine T.oM.ok ux (fun vs H Q E h=>?_) (fun cdv A outer s H vs Q E hr h=>?_)
 ·obtain⟨r,a,p,ns,row,tl,rfl,_⟩:=h
  rfl
 ·obtain⟨r,a,p,ns,row,tl,rfl,hR,hS,hd,k⟩:=h
  refine⟨_,(ak (bW (i:=1) ux.nd rfl (ba rfl) (dc (pv 0) T.cC T.cO Gz (hr.mono (by decide)) T.cP .nil bw))
   (ak (bW (i:=2) ux.nd rfl (ba rfl) (bI (pv 0) rfl))
   (ak (gm (pv 0) (i4 pF (pv 2) (pv 1)) rfl)
   (aA (a6 (HH VD (bI (pv 0) rfl) (GJ (pv 2)) (GJ (bI (pv 0) rfl)))))))),?_⟩
  obtain⟨h1,h2,h3⟩:=cy hd
  obtain⟨dx,hr0⟩:=id hR
  refine⟨_,rfl,r,dx,_,rfl,hr0,rfl,r,a,p,ns,_,rfl,hR,hS,h1,fun H1 hR1 e1=>?_⟩
  obtain⟨dx1,hr1⟩:=id hR1
  refine⟨_,rfl,r,_,dx1,_,_,rfl,hr1,T.cC,T.fh,rfl,?_⟩
  refine⟨_,rfl,_,rfl,_,_,rfl,rfl,_,rfl,r,_,dx1,_,rfl,hr1,T.cC,T.fh,(by show 2 < 1000;decide),?_⟩
  have k1:la H H1:=la.sV e1 fun m hm o h=>by
   obtain rfl:=ag.mp hm
   rw[hr0] at h
   obtain rfl:=aa h
   exact id
  have k2:la H1 (upd H1 r (.ins t.c8 dx1 (rf a (((p+1:Nat):Int)+row.length)))):=la.put hr1 id
  refine⟨_,rfl,r,_,dx1,_,_,rfl,aE,T.cC,T.oE,rfl,?_⟩
  refine⟨_,rfl,_,rfl,?_⟩
  refine⟨_,rfl,r,_,dx1,_,_,rfl,aE,T.cC,T.fh,rfl,_,rfl,?_⟩
  refine⟨a,_,rfl,(hS.keep (k1.trans k2)).sq,fun l hl=>?_⟩
  have hl:upd H1 r (.ins t.c8 dx1 (rf a (((p+1:Nat):Int)+row.length))) l=none:=hl
  have e2:Ext [r] H1 (upd H1 r (.ins t.c8 dx1 (rf a (((p+1:Nat):Int)+row.length)))):=Ext.put (by simp)
  have nrl:r≠l:=bf aE hl
  have hlH:H l=none:=by
   cases q:H l with
   | none=>rfl
   | some o=>
     have:=(e1.trans e2) l o q (by simpa using br nrl)
     rw[hl] at this
     cases this
  refine k _ l ⟨dx1,?_⟩ ?_ hlH ((e1.trans e2).trans (Ext.new hl))
  ·rw[aN nrl,aE]
   rw[show(((p+1+row.length:Nat)):Int)=((p+1:Nat):Int)+row.length by omega]
   rfl
  ·rw[aE]
   congr 2
   unfold I0
   rw[show(((p+1:Nat):Int)+row.length)=((p+1+row.length:Nat):Int) by omega,HT.ze,HT.ze,ae,← List.map_drop,← List.map_take]
   congr 1
   have hlen:(ns.drop (p+1)).length=row.length+tl.length:=by rw[h2,au]
   rw[dy] at hlen
   rw[show min (p+1) ns.length=p+1 by omega,show min (p+1+row.length) ns.length=p+1+row.length by omega,h2,show p+1+row.length - (p+1)=row.length by omega]
   exact List.take_left
end
end U
namespace U
open PySem PySem.Spec PyProof.Rows L2
open PySem.W (Codec)
open Ways KpFix KpWalk
section
variable {P:Program}{w:World}{K:ai}{mg:Str→Option Value}{base:Heap}{t:Adr}{C:Addr}
structure QAt (t:Adr) (S:Addr→Prop) (H:Hp) (qs f l le kd:Addr) (b:ax):Prop where
 obj:∃ dx,H qs=some (.ins t.bH dx [("forms",.ref f),("least",.ref le)])
 fm:cH t H f l b
 ls:lW t S H le l kd b
 gd:∀ x∈b,Good x
 few:b.length≤16
theorem QAt.same {S:Addr→Prop}{H H':Hp}{qs f l le kd:Addr}{b:ax} (A:QAt t S H qs f l le kd b) (s:bg H H'):QAt t S H' qs f l le kd b:=
 ⟨let ⟨dx,h⟩:=A.obj;⟨dx,s _ _ h⟩,A.fm.same s,A.ls.ext (M:=[]) (Ext.of_same s) (by simp) (by simp) (by simp),A.gd,A.few⟩
def Ci (t:Adr):Sp:=fun vs H Q _=>Ex4 fun(qs dx f l:Addr)=>vs=[.ref qs,.ref f]∧H qs=some (.ins t.bH dx [])∧cH t H f l []∧∀ H' le kd,QAt t no H' qs f l le kd []→H le=none→H kd=none→Ext [qs] H H'→Q .non H'
theorem cH.ext {H H':Hp}{f l:Addr}{b:ax} (F:cH t H f l b) {M:List Addr} (x:Ext M H H') (h1:f∉M) (h2:l∉M) (h3:∀ m∈M,∀ xs,H m≠some (.tup xs)):cH t H' f l b:=
 ⟨let ⟨dx,h⟩:=F.obj;⟨dx,x _ _ h h1⟩,F.book.keep fun a o h i=>x a o h fun m=>by
  rcases i with rfl | ⟨xs,rfl⟩
  ·exact h2 m
  ·exact h3 a m xs h⟩
theorem CK (T:Txt K mg t):cI P w K mg base CX0 3 t.gC t.ju ["self","forms"] (Ci t):=by
 refine T.l3.ok Cq (fun vs H Q E h=>by obtain⟨_,_,_,_,e,_⟩:=h;subst e;rfl) (fun cdv A outer s H vs Q E hr h=>?_)
 obtain⟨qs,dx,f,l,rfl,ho,F,k⟩:=h
 refine⟨_,(ak (gm (pv 0) (pv 1) rfl)
  (aA (gm (pv 0) (zf T.RM (AB T) (hr.mono (by decide)) rfl T.RO T.DP .nil bw (ah (bI (pv 1) rfl) aq)) rfl))),?_⟩
 obtain⟨df,hf⟩:=F.obj
 obtain⟨bs,hl,hbs⟩:=F.book
 refine⟨_,rfl,_,rfl,qs,_,dx,_,rfl,ho,T.cJ,T.fC,(by show 0 < 1000;decide),?_⟩
 have nfq:f≠qs:=cu hf ho (by intro z;injection z with _ _ z;exact absurd (congrArg ja z) (by simp))
 have hf1:upd H qs (.ins t.bH dx [("forms",.ref f)]) f=some (.ins t.cX df [("told",.ref l)]):=by rw[aN nfq];exact hf
 refine⟨_,rfl,f,_,df,_,_,rfl,hf1,T.dA,T.e8,rfl,fun le dx1 hle UG hne=>?_⟩
 have s1:bg (upd H qs (.ins t.bH dx [("forms",.ref f)])) (upd (upd (upd H qs (.ins t.bH dx [("forms",.ref f)])) dx1 (.own le)) le (.ins t.iM dx1 [])):=(bg.new UG).trans (bg.new (by rw[aN (br hne)];exact hle))
 refine⟨le,dx1,l,rfl,aE,fun H2 kd L2' hkd x2=>⟨rfl,?_⟩⟩
 have V8:H le=none:=dz _ hle
 have UC:H kd=none:=dz _ (dz _ (dz _ hkd))
 have hq2:H2 qs=some (.ins t.bH dx [("forms",.ref f)]):=x2 _ _ (s1 _ _ aE) (by simpa using bf ho V8)
 refine⟨_,rfl,qs,_,dx,_,rfl,hq2,T.cJ,T.kN,(by show 1 < 1000;decide),?_⟩
 have x0:Ext [qs] H H2:=fun a o h m=>x2 a o (s1 _ _ (by rw[aN (by simpa using m)];exact h)) (by simpa using bf h V8)
 have nql:qs≠le:=bf ho V8
 have nqk:qs≠kd:=bf ho UC
 have nlq:l≠qs:=cu hl ho (by intro z;cases z)
 have noT:∀ m∈[qs],∀ xs,H m≠some (.tup xs):=fun m hm xs=>by rw[ag.mp hm,ho];exact fun z=>nomatch z
 refine k (upd H2 qs (.ins t.bH dx [("forms",.ref f),("least",.ref le)])) le kd ⟨⟨dx,aE⟩,?_,?_,fun x hx=>(by cases hx),aT _⟩ V8 UC (x0.trans (Ext.put (by simp)))
 ·exact F.ext (x0.trans (Ext.put (by simp))) (by simpa using nfq) (by simpa using nlq) noT
 ·exact L2'.ext (M:=[qs]) (Ext.put (by simp)) (by simpa using br nql) (by simpa using br nqk) (fun m hm=>⟨id,fun xs=>by rw[ag.mp hm,hq2];exact fun z=>nomatch z⟩)
def AZ (t:Adr):Sp:=fun vs H Q _=>Ex7 fun(S:Addr→Prop) (qs f l le kd:Addr) (b:ax)=>vs=[.ref qs]∧QAt t S H qs f l le kd b∧
 ∀ H' l' le' kd',QAt t no H' qs f l' le' kd' []→H l'=none→H le'=none→H kd'=none→Ext [qs,f] H H'→Q (.int 0) H'
theorem Bu (T:Txt K mg t):cI P w K mg base CX0 3 t.fw t.iI ["self"] (AZ t):=by
 refine T.iR.ok sH (fun vs H Q E h=>by obtain⟨_,_,_,_,_,_,_,e,_⟩:=h;subst e;rfl) (fun cdv A outer s H vs Q E hr h=>?_)
 obtain⟨S,qs,f,l,le,kd,b,rfl,A,k⟩:=h
 refine⟨_,(ak (bW (i:=1) sH.nd rfl (ba rfl) (dc (bI (pv 0) rfl) T.dA T.Kv (HZ T) (hr.mono (by decide)) T.KL .nil bw))
  (ak (gm (pv 0) (zf T.RM (AB T) (hr.mono (by decide)) rfl T.RO T.DP .nil bw (ah (bI (bI (pv 0) rfl) rfl) aq)) rfl)
  (aA (a6 (pv 1))))),?_⟩
 obtain⟨dx,ho⟩:=A.obj
 obtain⟨df,hf⟩:=A.fm.obj
 refine⟨_,rfl,qs,_,dx,_,_,rfl,ho,T.cJ,T.fC,rfl,f,df,_,rfl,hf,rfl,f,l,b,rfl,A.fm,fun H1 l' F1 hl' x1=>?_⟩
 have nfq:f≠qs:=cu hf ho (by intro z;injection z with _ _ z;exact absurd (congrArg ja z) (by simp))
 have ho1:H1 qs=some (.ins t.bH dx [("forms",.ref f),("least",.ref le)]):=x1 _ _ ho (by simpa using br nfq)
 obtain⟨df1,hf1⟩:=F1.obj
 obtain⟨bs1,hl1,adk⟩:=F1.book
 refine⟨_,rfl,qs,_,dx,_,_,rfl,ho1,T.cJ,T.fC,rfl,f,_,df1,_,_,rfl,hf1,T.dA,T.e8,rfl,fun le' dx1 hle UG hne=>?_⟩
 have s1:bg H1 (upd (upd H1 dx1 (.own le')) le' (.ins t.iM dx1 [])):=(bg.new UG).trans (bg.new (by rw[aN (br hne)];exact hle))
 refine⟨le',dx1,l',rfl,aE,fun H2 kd' L2' hkd x2=>⟨rfl,?_⟩⟩
 have n1:∀ a,H1 a=none→H a=none:=x1.none (fun a ha=>by rw[ag.mp ha,hf1];exact fun z=>nomatch z)
 have ZS:H1 kd'=none:=dz _ (dz _ hkd)
 have x12:bg H1 H2:=fun a o h=>x2 a o (s1 _ _ h) (by simpa using bf h hle)
 have hq2:=x12 _ _ ho1
 refine⟨_,rfl,qs,_,dx,_,rfl,hq2,T.cJ,T.kN,(by show 2 < 1000;decide),?_⟩
 have nql:qs≠le':=bf ho1 hle
 have nqk:qs≠kd':=bf ho1 ZS
 have nlq:l'≠qs:=cu hl1 ho1 (by intro z;cases z)
 have noT:∀ m∈[qs],∀ xs,H2 m≠some (.tup xs):=fun m hm xs=>by rw[ag.mp hm,hq2];exact fun z=>nomatch z
 refine⟨_,rfl,k (upd H2 qs (.ins t.bH dx [("forms",.ref f),("least",.ref le')])) l' le' kd' ⟨⟨dx,aE⟩,?_,?_,fun x hx=>(by cases hx),aT _⟩ hl' (n1 _ hle) (n1 _ ZS) ?_⟩
 ·exact(F1.same x12).ext (M:=[qs]) (Ext.put (by simp)) (by simpa using nfq) (by simpa using nlq) noT
 ·exact L2'.ext (M:=[qs]) (Ext.put (by simp)) (by simpa using br nql) (by simpa using br nqk) (fun m hm=>⟨id,noT m hm⟩)
 ·exact((x1.mono (fun a ha=>by rw[ag.mp ha];simp)).trans (Ext.of_same x12)).trans (Ext.put (by simp))
end
end U
namespace U
open PySem PySem.Spec PyProof.Rows L2
open PySem.W (Codec)
open Ways KpFix KpWalk
section
variable {P:Program}{w:World}{K:ai}{mg:Str→Option Value}{base:Heap}{t:Adr}{C:Addr}
def gw (s:vY) (c:nT):List Int:=(cA s c).2.num::bT (cA s c).2.nums
def zB (b:ax) (ns:List Nat):Int:=if (ns.any fun t=>decide (b.length≤t))=true then -2 else if cM b=false then -61 else 0
theorem M9 {b:ax}{ns:List Nat}{a:Kp190.Ans} (h:zB b ns < 0):(gg b ns a).2=qO (zB b ns):=by
 unfold zB at h ⊢
 unfold gg
 dsimp only
 split
 ·rfl
 ·rename_i h1
  rw[if_neg h1] at h
  split
  ·rfl
  ·rename_i h2
   rw[if_neg h2] at h
   omega
theorem Jc {b:ax}{ns:List Nat}{a:Kp190.Ans} (h:¬ zB b ns < 0):(gg b ns a).2=a∧(∀ n∈ns,n < b.length)∧cM b=true:=by
 unfold zB at h
 unfold gg
 dsimp only
 by_cases h1:(ns.any fun t=>decide (b.length≤t))=true
 ·rw[if_pos h1] at h;omega
 ·rw[if_neg h1] at h ⊢
  by_cases h2:cM b=false
  ·rw[if_pos h2] at h;omega
  ·rw[if_neg h2]
   refine⟨rfl,fun n hn=>?_,by cases e:cM b with | true=>rfl | false=>exact absurd e h2⟩
   by_cases z:n < b.length
   ·exact z
   ·exact absurd (jO.mpr ⟨n,hn,decide_eq_true (by omega)⟩) h1
theorem Good.refs:∀ {x:cp},Good x→(pb x).length≤30000
 | .num _ _,_=>aT _
 | .text _,_=>aT _
 | .list _ _ _,_=>by show 1≤30000;decide
 | .record fs,h=>by show(fs.map _).length≤_;rw[ae];have:=h.1;omega
 | .choice fs,h=>by show(fs.map _).length≤_;rw[ae];have:=h.1;omega
def yr (t:Adr):Sp:=fun vs H Q _=>Ex9 fun(S:Addr→Prop) (qs f l le kd:Addr) (b:ax) (a:Addr) (ns:List Nat)=>vs=[.ref qs,.ref a]∧QAt t S H qs f l le kd b∧H a=some (.lst (nV ns))∧∀ H',bg H H'→Q (.int (zB b ns)) H'
theorem kZ (T:Txt K mg t):cI P w K mg base CX0 3 t.eh t.fR ["self","numbers"] (yr t):=by
 refine T.f7.ok qg (fun vs H Q E h=>by obtain⟨_,_,_,_,_,_,_,_,_,e,_⟩:=h;subst e;rfl) (fun cdv A outer s H vs Q E hr h=>?_)
 obtain⟨S,qs,f,l,le,kd,b,a,ns,rfl,A,ha,k⟩:=h
 refine⟨_,(ak (iW PassesOwn.never rfl (eY (pv 1)) (cg (i:=2) qg.nd rfl (ba rfl)) (aA (b9 (Bp (uE (cn (bI (pv 0) rfl) T.dA T.vP (t9 T) (hr.mono (by decide)) T.vX .nil bw (ah (pv 2) aq)))) (aA (a6 (bz rfl T.GA T.Gs))) bp)))
  (ak (b9 (Bp (uE (dc (bI (pv 0) rfl) T.dA T.tG (r6 T) (hr.mono (by decide)) T.tK .nil bw))) (aA (a6 (bz rfl T.Jr T.Ji))) bp)
  (aA (a6 aH)))),?_⟩
 obtain⟨dx,ho⟩:=A.obj
 obtain⟨df,hf⟩:=A.fm.obj
 refine⟨_,rfl,a,rfl,⟨_,SqL.of ha⟩,?_⟩
 have hnl:(nV ns).length=ns.length:=by unfold nV nI;rw[ae,ae]
 refine mI (xs:=nV ns) (fun j σ H'=>(∃ x,σ=[some (.ref qs),some (.ref a),x])∧H'=H∧((ns.take j).any fun t=>decide (b.length≤t))=false) ⟨⟨_,rfl⟩,rfl,rfl⟩ (fun i σ H' _ h=>by rw[h.2.1];exact SqL.of ha) ?_ ?_
 ·rintro j x σ H' hj ⟨⟨y,rfl⟩,rfl,Wb⟩
  have hjl:j < ns.length:=by rw[← hnl];exact(aP.mp hj).1
  have hnj:ns[j]?=some ns[j]:=aK hjl
  rw[MJ hnj] at hj
  obtain rfl:=aa hj
  refine⟨_,rfl,qs,_,dx,_,_,rfl,ho,T.cJ,T.fC,rfl,f,df,_,rfl,hf,rfl,_,rfl,f,l,b,ns[j],rfl,A.fm,_,rfl,?_⟩
  by_cases hlt:ns[j] < b.length
  ·refine ifF (by show(!decide _)=false;rw[decide_eq_true hlt];rfl) ⟨⟨_,rfl⟩,rfl,?_⟩
   rw[cV hnj,List.any_append,Wb]
   simp
   exact hlt
  ·refine ifT (by show(!decide _)=true;rw[decide_eq_false hlt];rfl) ?_
   have:=k H' (bg.refl _)
   unfold zB at this
   rw[if_pos (jO.mpr ⟨ns[j],a7 hnj,decide_eq_true (by omega)⟩)] at this
   exact this
 ·rintro σ H' ⟨⟨y,rfl⟩,rfl,Wb⟩
  rw[hnl,cz] at Wb
  refine⟨_,rfl,qs,_,dx,_,_,rfl,ho,T.cJ,T.fC,rfl,f,df,_,rfl,hf,rfl,f,l,b,rfl,A.fm,fun x hx=>(A.gd x hx).refs,fun H1 s1=>⟨_,rfl,?_⟩⟩
  have:=k H1 s1
  unfold zB at this
  rw[if_neg (by rw[Wb];decide)] at this
  cases hc:cM b with
  | true=>
    rw[hc,if_neg (by decide)] at this
    exact z0 this
  | false=>
    rw[hc,if_pos rfl] at this
    exact uL this
def wm (t:Adr):Sp:=fun vs H Q _=>YH fun(S:Addr→Prop) (qs f l le kd:Addr) (b:ax) (n:Nat) (nu:Addr) (r:bc)=>vs=[.ref qs,.int n,.ref nu]∧QAt t S H qs f l le kd b∧H nu=some (.lst (nV r))∧r.length≤1000∧
 ∀ H' o,H' o=some (.lst ((gw (some b) (.is_ n r)).map V.int))→H o=none→bg H H'→Q (.ref o) H'
theorem wK (T:Txt K mg t) (TE:TxE K mg C):cI P w K mg base CX0 7 t.dE t.eG ["self","number","numbers"] (wm t):=by
 refine T.eK.ok nW (fun vs H Q E h=>by obtain⟨_,_,_,_,_,_,_,_,_,_,e,_⟩:=h;subst e;rfl) (fun cdv A outer s H vs Q E hr h=>?_)
 obtain⟨S,qs,f,l,le,kd,b,n,nu,r,rfl,A,hn,hr1,k⟩:=h
 refine⟨_,(ak (bW (i:=3) nW.nd rfl (ba rfl) (cn (pv 0) T.cJ T.mB (kZ T) (hr.mono (by decide)) T.mC .nil bw (ah (bX (ah (pv 1) aq)) aq)))
  (ak (b9 (bo Ff (pv 3) aH (bL _)) (aA (a6 (bX (ah (pv 3) aq)))) bp)
  (ak (b9 (uE (bG (J5 T TE) (hr.mono (by decide)) rfl T.Nq T.oI.kp T.Nz .nil bw (ah (bI (bI (pv 0) rfl) rfl) (ah (pv 1) (ah (pv 2) aq))))) (aA (a6 (bX (ah aH aq)))) bp)
  (aA (a6 (bX (ah aH aq))))))),?_⟩
 obtain⟨dx,ho⟩:=A.obj
 obtain⟨df,hf⟩:=A.fm.obj
 refine⟨_,rfl,qs,dx,_,rfl,ho,rfl,_,rfl,(by show 1≤sizeLine;decide),fun p hp=>?_⟩
 have s1:=bg.new (o:=.lst [.int (n:Nat)]) hp
 refine⟨S,qs,f,l,le,kd,b,p,[n],rfl,A.same s1,aE,fun H2 s2=>?_⟩
 have s02:=s1.trans s2
 refine⟨_,rfl,_,_,rfl,rfl,_,rfl,?_⟩
 by_cases Dd:zB b [n] < 0
 ·refine ifT (decide_eq_true Dd) ⟨_,rfl,(by show 1≤sizeLine;decide),fun o ho'=>?_⟩
  refine k _ o ?_ (s02.non o ho') (s02.trans (bg.new ho'))
  rw[aE]
  have e:gw (some b) (.is_ n r)=[zB b [n]]:=by
   unfold gw
   show(gg b [n] _).2.num::bT (gg b [n] _).2.nums=_
   rw[M9 Dd]
   rfl
  rw[e]
  rfl
 ·obtain⟨e,hlt,hcl⟩:=Jc (a:=qO (if ye b n r then 1 else 0)) Dd
  have hlt:=hlt n (by simp)
  refine ifF (decide_eq_false Dd) ?_
  refine⟨_,rfl,qs,_,dx,_,_,rfl,s02 _ _ ho,T.cJ,T.fC,rfl,f,_,df,_,_,rfl,s02 _ _ hf,T.dA,T.e8,rfl,_,rfl,_,rfl,l,nu,b,n,r,rfl,(A.same s02).fm.book,s02 _ _ hn,by omega,hlt,hcl,A.gd,fun H3 s3=>?_⟩
  have s03:=s02.trans s3
  have e:gw (some b) (.is_ n r)=[if ye b n r then 1 else 0]:=by
   unfold gw
   show(gg b [n] _).2.num::bT (gg b [n] _).2.nums=_
   rw[e]
   rfl
  rw[e] at k
  refine⟨_,rfl,?_⟩
  cases hi:ye b n r with
  | true=>
    rw[hi] at k
    exact uL ⟨(by show 1≤sizeLine;decide),fun o ho'=>k _ o aE (s03.non o ho') (s03.trans (bg.new ho'))⟩
  | false=>
    rw[hi] at k
    exact z0 ⟨(by show 1≤sizeLine;decide),fun o ho'=>k _ o aE (s03.non o ho') (s03.trans (bg.new ho'))⟩
end
end U
namespace U
open PySem PySem.Spec PyProof.Rows L2
open PySem.W (Codec)
open Ways KpFix KpWalk
section
variable {P:Program}{w:World}{K:ai}{mg:Str→Option Value}{base:Heap}{t:Adr}{C:Addr}
theorem lW.kdT {S:Addr→Prop}{H:Hp}{le l kd:Addr}{b:ax} (h:lW t S H le l kd b):∃ kvs,H kd=some (.dT kvs):=let ⟨kvs,_,_,_,h,_⟩:=h.tab;⟨kvs,h⟩
theorem QAt.found {S S':Addr→Prop}{H H':Hp}{qs f l le kd:Addr}{b:ax} (A:QAt t S H qs f l le kd b) (L:lW t S' H' le l kd b) (x:Ext [kd] H H'):QAt t S' H' qs f l le kd b:=by
 obtain⟨kvs,hk⟩:=A.ls.kdT
 obtain⟨dx,ho⟩:=A.obj
 obtain⟨df,hf⟩:=A.fm.obj
 obtain⟨bs,hl,_⟩:=A.fm.book
 refine⟨⟨dx,x _ _ ho (by simpa using cu ho hk (by intro z;cases z))⟩,A.fm.ext x (by simpa using cu hf hk (by intro z;cases z)) (by simpa using cu hl hk (by intro z;cases z)) (fun m hm xs=>?_),L,A.gd,A.few⟩
 rw[ag.mp hm,hk]
 exact fun z=>nomatch z
theorem some_at {S:Addr→Prop}{H:Hp}{v:V}{z:Nat×bc} (h:Dv S H v (knD (some z))):∃ a c,v=.ref a∧H a=some (.tup [.int (z.1:Nat),.ref c])∧S c∧H c=some (.lst (nV z.2)):=by
 obtain⟨a,xs,rfl,ha,hx⟩:=h.tupI
 obtain⟨v1,us,rfl,h1,hx⟩:=hx.fB
 obtain⟨v2,us,rfl,h2,hx⟩:=hx.fB
 obtain rfl:=hx.xK
 obtain rfl:=h1.z5
 obtain⟨c,rfl,hs,hc⟩:=Dv.lint h2
 exact⟨a,c,rfl,ha,hs,hc⟩
def uu (t:Adr):Sp:=fun vs H Q _=>Ex8 fun(S:Addr→Prop) (qs f l le kd:Addr) (b:ax) (n:Nat)=>vs=[.ref qs,.int n]∧QAt t S H qs f l le kd b∧
 ∀ H' S' o,H' o=some (.lst ((gw (some b) (.some_ n)).map V.int))→H o=none→QAt t S' H' qs f l le kd b→(∀ a,S' a→nw S H a)→Ext [kd] H H'→Q (.ref o) H'
theorem uH (T:Txt K mg t):cI P w K mg base CX0 8 t.c9 t.dR ["self","number"] (uu t):=by
 refine T.dU.ok iV (fun vs H Q E h=>by obtain⟨_,_,_,_,_,_,_,_,e,_⟩:=h;subst e;rfl) (fun cdv A outer s H vs Q E hr h=>?_)
 obtain⟨S,qs,f,l,le,kd,b,n,rfl,A,k⟩:=h
 refine⟨_,(ak (bW (i:=2) iV.nd rfl (ba rfl) (cn (pv 0) T.cJ T.mB (kZ T) (hr.mono (by decide)) T.mC .nil bw (ah (bX (ah (pv 1) aq)) aq)))
  (ak (b9 (bo Ff (pv 2) aH (bL _)) (aA (a6 (bX (ah (pv 2) aq)))) bp)
  (ak (bW (i:=3) iV.nd rfl (ba rfl) (cn (bI (pv 0) rfl) T.oP T.rP (qv T) (hr.mono (by decide)) T.rR .nil bw (ah (bG (pI T) (hr.mono (by decide)) rfl T.tH T.lj.kp T.tJ .nil bw (ah (pv 1) aq)) aq)))
  (ak (b9 (bo HQ (pv 3) yF (bL _)) (aA (a6 (bX (ah (bz rfl T.E6 T.E3) aq)))) bp)
  (aA (a6 (i4 HR (bX (ah (a9 aY (pv 3) aH (fun _ _=>rfl)) aq)) (a9 aY (pv 3) aH (fun _ _=>rfl))))))))),?_⟩
 obtain⟨dx,ho⟩:=A.obj
 obtain⟨dl,hle⟩:=A.ls.obj
 refine⟨_,rfl,qs,dx,_,rfl,ho,rfl,_,rfl,(by show 1≤sizeLine;decide),fun p hp=>?_⟩
 have s1:=bg.new (o:=.lst [.int (n:Nat)]) hp
 refine⟨S,qs,f,l,le,kd,b,p,[n],rfl,A.same s1,aE,fun H2 s2=>?_⟩
 have s02:=s1.trans s2
 refine⟨_,rfl,_,_,rfl,rfl,_,rfl,?_⟩
 by_cases Dd:zB b [n] < 0
 ·refine ifT (decide_eq_true Dd) ⟨_,rfl,(by show 1≤sizeLine;decide),fun o ho'=>?_⟩
  have s03:=s02.trans (bg.new (o:=.lst [.int (zB b [n])]) ho')
  refine k _ S o ?_ (s02.non o ho') (A.same s03) (fun a ha=>.inl ha) (Ext.of_same s03)
  rw[aE]
  have e:gw (some b) (.some_ n)=[zB b [n]]:=by
   unfold gw
   show(gg b [n] _).2.num::bT (gg b [n] _).2.nums=_
   rw[M9 Dd]
   rfl
  rw[e]
  rfl
 ·refine ifF (decide_eq_false Dd) ?_
  have hg:=fun a=>Jc (a:=a) Dd
  obtain⟨_,hlt,hcl⟩:=hg (qO 0)
  have hlt:=hlt n (by simp)
  have M0:gw (some b) (.some_ n)=match KS b (i9 n) with | none=>[-6] | some x=>(x.1:Int)::bT x.2:=by
   unfold gw
   show(gg b [n] _).2.num::bT (gg b [n] _).2.nums=_
   rw[(hg _).1,QT]
   cases Kp190.get (Kp190.leastTable b) n<;>rfl
  refine⟨_,rfl,qs,_,dx,_,_,rfl,s02 _ _ ho,T.cJ,T.kN,rfl,le,dl,_,rfl,s02 _ _ hle,rfl,_,rfl,no,n,rfl,fun vw H3 s3 hvw=>?_⟩
  have s03:=s02.trans s3
  have A3:=A.same s03
  refine⟨S,le,l,kd,b,vw,i9 n,rfl,A3.ls,A3.fm.book,yh hvw,wO hlt,hcl,A.gd,A.few,fun H4 S4 v4 L4 Xi hv4 x4=>?_⟩
  have A4:=A3.found L4 x4
  have x04:Ext [kd] H H4:=(Ext.of_same s03).trans x4
  have sub:∀ a,S4 a→nw S H a:=fun a ha=>CN s03.non a (Xi a ha)
  obtain⟨kv4,hk4⟩:=L4.kdT
  have n4:∀ a,H4 a=none→H a=none:=x04.none (fun a ha=>by rw[ag.mp ha,hk4];exact fun z=>nomatch z)
  cases hks:KS b (i9 n) with
  | none=>
    rw[hks] at hv4 M0
    obtain rfl:=hv4.VT
    refine⟨_,rfl,rfl,_,rfl,uL ⟨(by show 1≤sizeLine;decide),fun o ho'=>?_⟩⟩
    have s5:=bg.new (o:=.lst [.int (-6)]) ho'
    refine k _ S4 o ?_ (n4 o ho') (A4.same s5) sub (x04.trans (Ext.of_same s5))
    rw[aE,M0]
    rfl
  | some z=>
    rw[hks] at hv4 M0
    obtain⟨a,c,rfl,ha,hc,Yb⟩:=some_at hv4
    have hzl:z.2.length≤600:=by
     have:=Nl b _ z hks
     omega
    refine⟨_,rfl,rfl,_,rfl,z0 ?_⟩
    refine⟨_,rfl,a,_,_,_,rfl,rfl,SqT.of ha,aF (j:=0) rfl,(by show 1≤sizeLine;decide),fun p5 hp5=>?_⟩
    have s5:=bg.new (o:=.lst [.int (z.1:Nat)]) hp5
    refine⟨_,rfl,a,_,_,_,rfl,rfl,SqT.of (s5 _ _ ha),aF (j:=1) rfl,p5,c,_,_,rfl,rfl,aE,s5 _ _ Yb,?_,fun o ho'=>?_⟩
    ·rw[ra]
     show 1+z.2.length≤sizeLine
     exact jd (small _ (by omega))
    have s6:=s5.trans (bg.new (o:=.lst ([.int (z.1:Nat)]++nV z.2)) ho')
    refine k _ S4 o ?_ (n4 o (s5.non o ho')) (A4.same s6) sub (x04.trans (Ext.of_same s6))
    rw[aE,M0]
    rfl
def sF (t:Adr):Sp:=fun vs H Q _=>Ex9 fun(S:Addr→Prop) (qs f l le kd:Addr) (b:ax) (n m:Nat)=>vs=[.ref qs,.int n,.int m]∧QAt t S H qs f l le kd b∧
 ∀ H' S' o,H' o=some (.lst ((gw (some b) (.within n m)).map V.int))→H o=none→QAt t S' H' qs f l le kd b→(∀ a,S' a→nw S H a)→Ext [kd] H H'→Q (.ref o) H'
theorem sU (T:Txt K mg t):cI P w K mg base CX0 8 t.cU t.dn ["self","number","other"] (sF t):=by
 refine T.dw.ok gI (fun vs H Q E h=>by obtain⟨_,_,_,_,_,_,_,_,_,e,_⟩:=h;subst e;rfl) (fun cdv A outer s H vs Q E hr h=>?_)
 obtain⟨S,qs,f,l,le,kd,b,n,m,rfl,A,k⟩:=h
 refine⟨_,(ak (bW (i:=3) gI.nd rfl (ba rfl) (cn (pv 0) T.cJ T.mB (kZ T) (hr.mono (by decide)) T.mC .nil bw (ah (bX (ah (pv 1) (ah (pv 2) aq))) aq)))
  (ak (b9 (bo Ff (pv 3) aH (bL _)) (aA (a6 (bX (ah (pv 3) aq)))) bp)
  (ak (bW (i:=4) gI.nd rfl (ba rfl) (cn (bI (pv 0) rfl) T.oP T.rP (qv T) (hr.mono (by decide)) T.rR .nil bw (ah (dG (ah (pv 1) (ah (pv 2) aq))) aq)))
  (ak (b9 (bo HQ (pv 4) yF (bL _)) (aA (a6 (bX (ah aH aq)))) bp)
  (aA (a6 (i4 HR (bX (ah aH aq)) (a9 aY (pv 4) aH (fun _ _=>rfl))))))))),?_⟩
 obtain⟨dx,ho⟩:=A.obj
 obtain⟨dl,hle⟩:=A.ls.obj
 refine⟨_,rfl,qs,dx,_,rfl,ho,rfl,_,rfl,_,rfl,(by show 2≤sizeLine;decide),fun p hp=>?_⟩
 have s1:=bg.new (o:=.lst [.int (n:Nat),.int (m:Nat)]) hp
 refine⟨S,qs,f,l,le,kd,b,p,[n,m],rfl,A.same s1,aE,fun H2 s2=>?_⟩
 have s02:=s1.trans s2
 refine⟨_,rfl,_,_,rfl,rfl,_,rfl,?_⟩
 by_cases Dd:zB b [n,m] < 0
 ·refine ifT (decide_eq_true Dd) ⟨_,rfl,(by show 1≤sizeLine;decide),fun o ho'=>?_⟩
  have s03:=s02.trans (bg.new (o:=.lst [.int (zB b [n,m])]) ho')
  refine k _ S o ?_ (s02.non o ho') (A.same s03) (fun a ha=>.inl ha) (Ext.of_same s03)
  rw[aE]
  have e:gw (some b) (.within n m)=[zB b [n,m]]:=by
   unfold gw
   show(gg b [n,m] _).2.num::bT (gg b [n,m] _).2.nums=_
   rw[M9 Dd]
   rfl
  rw[e]
  rfl
 ·refine ifF (decide_eq_false Dd) ?_
  have hg:=fun a=>Jc (a:=a) Dd
  obtain⟨_,hlt,hcl⟩:=hg (qO 0)
  have acv:=hlt n (by simp)
  have acw:=hlt m (by simp)
  have M0:gw (some b) (.within n m)=match KS b ((n:Int),(m:Int)) with | none=>[1] | some x=>0::bT x.2:=by
   unfold gw
   show(gg b [n,m] _).2.num::bT (gg b [n,m] _).2.nums=_
   rw[(hg _).1,RN]
   unfold Kp190.pair
   cases Kp190.get (Kp190.differTable b) (n * b.length+m)<;>rfl
  refine⟨_,rfl,qs,_,dx,_,_,rfl,s02 _ _ ho,T.cJ,T.kN,rfl,le,dl,_,rfl,s02 _ _ hle,rfl,_,rfl,_,rfl,(by show 2≤sizeLine;decide),fun pw hpw=>?_⟩
  have s3:=bg.new (o:=.tup [.int (n:Nat),.int (m:Nat)]) hpw
  have s03:=s02.trans s3
  have A3:=A.same s03
  refine⟨S,le,l,kd,b,.ref pw,((n:Int),(m:Int)),rfl,A3.ls,A3.fm.book,.tup aE (.cons (.int _) (.cons (.int _) .nil)),Dc acv acw,hcl,A.gd,A.few,fun H4 S4 v4 L4 Xi hv4 x4=>?_⟩
  have A4:=A3.found L4 x4
  have x04:Ext [kd] H H4:=(Ext.of_same s03).trans x4
  have sub:∀ a,S4 a→nw S H a:=fun a ha=>CN s03.non a (Xi a ha)
  obtain⟨kv4,hk4⟩:=L4.kdT
  have n4:∀ a,H4 a=none→H a=none:=x04.none (fun a ha=>by rw[ag.mp ha,hk4];exact fun z=>nomatch z)
  cases hks:KS b ((n:Int),(m:Int)) with
  | none=>
    rw[hks] at hv4 M0
    obtain rfl:=hv4.VT
    refine⟨_,rfl,rfl,_,rfl,uL ⟨(by show 1≤sizeLine;decide),fun o ho'=>?_⟩⟩
    have s5:=bg.new (o:=.lst [.int 1]) ho'
    refine k _ S4 o ?_ (n4 o ho') (A4.same s5) sub (x04.trans (Ext.of_same s5))
    rw[aE,M0]
    rfl
  | some z=>
    rw[hks] at hv4 M0
    obtain⟨a,c,rfl,ha,hc,Yb⟩:=some_at hv4
    have hzl:z.2.length≤600:=by
     have:=Nl b _ z hks
     omega
    refine⟨_,rfl,rfl,_,rfl,z0 ?_⟩
    refine⟨(by show 1≤sizeLine;decide),fun p5 hp5=>?_⟩
    have s5:=bg.new (o:=.lst [.int 0]) hp5
    refine⟨_,rfl,a,_,_,_,rfl,rfl,SqT.of (s5 _ _ ha),aF (j:=1) rfl,p5,c,_,_,rfl,rfl,aE,s5 _ _ Yb,?_,fun o ho'=>?_⟩
    ·rw[ra]
     show 1+z.2.length≤sizeLine
     exact jd (small _ (by omega))
    have s6:=s5.trans (bg.new (o:=.lst ([.int 0]++nV z.2)) ho')
    refine k _ S4 o ?_ (n4 o (s5.non o ho')) (A4.same s6) sub (x04.trans (Ext.of_same s6))
    rw[aE,M0]
    rfl
end
end U
namespace U
open PySem PySem.Spec PyProof.Rows L2
open PySem.W (Codec)
open Ways KpFix KpWalk
section
variable {P:Program}{w:World}{K:ai}{mg:Str→Option Value}{base:Heap}{t:Adr}{C:Addr}
theorem K3:∀ {fs:List b8}{x:b8},tQ (x::fs)=true→∀ y∈fs,x.name < y.name
 | [],_,_,y,hy=>by cases hy
 | z::fs,x,h,y,hy=>by
   have h:(decide (x.name < z.name) && tQ (z::fs))=true:=h
   rw[a5] at h
   have h1:=of_decide_eq_true h.1
   rcases aC.mp hy with rfl | hy
   ·exact h1
   ·exact kO h1 (K3 h.2 y hy)
theorem K2:∀ {fs:List b8},tQ fs=true→(fs.map fun f=>f.name).Nodup
 | [],_=>pS
 | [x],_=>by simp
 | x::y::fs,h=>by
   have h':(decide (x.name < y.name) && tQ (y::fs))=true:=h
   rw[a5] at h'
   rw[aU,c7]
   refine⟨fun m=>?_,K2 h'.2⟩
   obtain⟨z,hz,e⟩:=ay.mp m
   have:=K3 h z hz
   omega
theorem Ft {fs:List b8} (h:g9 fs=true):fs.length≤8∧(fs.map fun f=>f.name).Nodup:=by
 unfold g9 at h
 rw[a5,a5] at h
 exact⟨of_decide_eq_true h.1,K2 h.2.2⟩
theorem Vc {b:ax}{g:Bool}{x:cp}{b':ax}{v:Int} (h:qQ b g x=(some b',qO v)) (hx:g=true→Good x) (hb:∀ y∈b,Good y) (h16:b.length≤16):(∀ y∈b',Good y)∧b'.length≤16∧∃ r,b'=b++r:=by
 unfold qQ at h
 cases g with
 | false=>
   rw[if_pos rfl] at h
   obtain⟨h1,_⟩:=aV h
   obtain rfl:=aa h1
   exact⟨hb,h16,[],(cq _).symm⟩
 | true=>
   rw[if_neg (by decide)] at h
   by_cases hl:vZ≤b.length
   ·rw[if_pos hl] at h
    obtain⟨h1,_⟩:=aV h
    obtain rfl:=aa h1
    exact⟨hb,h16,[],(cq _).symm⟩
   ·rw[if_neg hl] at h
    obtain⟨h1,_⟩:=aV h
    obtain rfl:=aa h1
    have:vZ=16:=rfl
    refine⟨fun y hy=>?_,by rw[au,bD];omega,[x],rfl⟩
    rcases az.mp hy with hy | hy
    ·exact hb y hy
    ·rw[ag.mp hy];exact hx rfl
structure KC (K:ai) (t:Adr) (S:Addr→Prop) (H:Hp) (r f qs a:Addr) (ns:List Int) (p:Nat) (l le kd:Addr) (b:ax):Prop where
 rd:dt t H r a p
 ar:y9 K H a (ns.map V.int)
 q:QAt t S H qs f l le kd b
 nr:¬ S r
theorem Qi {H:Hp}{r a f l:Addr}{p:Int}{b:ax} (h:dt t H r a p) (F:cH t H f l b):r≠f∧r≠l:=by
 obtain⟨dx,h⟩:=h
 obtain⟨df,hf⟩:=F.obj
 obtain⟨bs,hl,_⟩:=F.book
 exact⟨cu h hf (by intro z;injection z with _ _ z;exact absurd (congrArg ja z) (by simp[rf])),cu h hl (by intro z;cases z)⟩
theorem VU {S:Addr→Prop}{H:Hp}{r a qs f l le kd:Addr}{p:Int}{b:ax} (h:dt t H r a p) (A:QAt t S H qs f l le kd b):r≠qs∧r≠le∧r≠kd:=by
 obtain⟨dx,h⟩:=h
 obtain⟨dq,hq⟩:=A.obj
 obtain⟨dl,hl⟩:=A.ls.obj
 obtain⟨kvs,hk⟩:=A.ls.kdT
 refine⟨cu h hq ?_,cu h hl ?_,cu h hk (by intro z;cases z)⟩
 ·intro z
  injection z with _ _ z
  unfold rf at z
  injection z with z _
  injection z with z _
  exact absurd z (by decide)
 ·intro z
  injection z with _ _ z
  unfold rf at z
  injection z with z _
  injection z with z _
  exact absurd z (by decide)
theorem neQ {S:Addr→Prop}{H:Hp}{qs f l le kd:Addr}{b:ax} (A:QAt t S H qs f l le kd b):(qs≠f∧qs≠l∧qs≠kd∧qs≠le)∧(f≠l∧f≠kd∧f≠le)∧(l≠kd∧l≠le)∧kd≠le:=by
 obtain⟨dq,hq⟩:=A.obj
 obtain⟨df,hf⟩:=A.fm.obj
 obtain⟨bs,hl,_⟩:=A.fm.book
 obtain⟨dl,hle⟩:=A.ls.obj
 obtain⟨kvs,hk⟩:=A.ls.kdT
 refine⟨⟨cu hq hf ?_,cu hq hl (by intro z;cases z),cu hq hk (by intro z;cases z),cu hq hle ?_⟩,⟨cu hf hl (by intro z;cases z),cu hf hk (by intro z;cases z),cu hf hle ?_⟩,⟨cu hl hk (by intro z;cases z),cu hl hle (by intro z;cases z)⟩,cu hk hle (by intro z;cases z)⟩
 ·intro z;injection z with _ _ z;exact absurd (congrArg ja z) (by simp)
 ·intro z
  injection z with _ _ z
  injection z with z _
  injection z with z _
  exact absurd z (by decide)
 ·intro z;injection z with _ _ z;exact absurd (congrArg ja z) (by simp)
theorem QAt.told {S:Addr→Prop}{H H':Hp}{r a qs f l le kd:Addr}{p:Int}{b:ax} (A:QAt t S H qs f l le kd b) (h:dt t H r a p) (nr:¬ S r) {b':ax} (F:cH t H' f l b') (x:Ext [r,l] H H') (hg:∀ y∈b',Good y) (h16:b'.length≤16) (hb:∃ r,b'=b++r):QAt t S H' qs f l le kd b':=by
 obtain⟨dq,hq⟩:=A.obj
 obtain⟨n1,n2,n3⟩:=VU h A
 obtain⟨⟨m1,m2,m3,m4⟩,_,⟨m5,m6⟩,_⟩:=neQ A
 obtain⟨rr,rfl⟩:=hb
 obtain⟨dx,hr⟩:=h
 obtain⟨bs,hl,_⟩:=A.fm.book
 refine⟨⟨dq,x _ _ hq (by simp[br n1,m2])⟩,F,(A.ls.ext x (by simp[br n2,br m6]) (by simp[br n3,br m5]) (fun m hm=>?_)).tell rr,hg,h16⟩
 simp only[aC,bN,or_false] at hm
 rcases hm with rfl | rfl
 ·exact⟨nr,fun xs=>by rw[hr];exact fun z=>nomatch z⟩
 ·exact⟨A.ls.nl,fun xs=>by rw[hl];exact fun z=>nomatch z⟩
theorem KC.noI {S:Addr→Prop}{H:Hp}{r f qs a:Addr}{ns:List Int}{p:Nat}{l le kd:Addr}{b:ax} (D:KC K t S H r f qs a ns p l le kd b):∀ m∈[r,f,qs,l,kd],∀ o,H m=some o→¬ Imm o:=by
 intro m hm o h
 obtain⟨dr,hr⟩:=D.rd
 obtain⟨dq,hq⟩:=D.q.obj
 obtain⟨df,hf⟩:=D.q.fm.obj
 obtain⟨bs,hl,_⟩:=D.q.fm.book
 obtain⟨kvs,hk⟩:=D.q.ls.kdT
 simp only[aC,bN,or_false] at hm
 rcases hm with rfl | rfl | rfl | rfl | rfl
 ·rw[hr] at h;obtain rfl:=aa h;exact id
 ·rw[hf] at h;obtain rfl:=aa h;exact id
 ·rw[hq] at h;obtain rfl:=aa h;exact id
 ·rw[hl] at h;obtain rfl:=aa h;exact id
 ·rw[hk] at h;obtain rfl:=aa h;exact id
theorem lJ {H H1:Hp}{r a:Addr}{p:Int}{xs:List V} (hR:dt t H r a p) (hA:y9 K H a xs) (x:Ext [r] H H1):y9 K H1 a xs:=hA.keep (la.sV x fun m hm o h=>by
 obtain⟨dx,hr⟩:=hR
 rw[ag.mp hm,hr] at h
 obtain rfl:=aa h
 exact id)
theorem iz {H H1:Hp}{r a f l:Addr}{p:Int}{b:ax} (hR:dt t H r a p) (F:cH t H f l b) (x:Ext [r] H H1):cH t H1 f l b:=by
 obtain⟨n1,n2⟩:=Qi hR F
 obtain⟨dx,hr⟩:=hR
 exact F.ext x (by simpa using br n1) (by simpa using br n2) (fun m hm xs=>by rw[ag.mp hm,hr];exact fun z=>nomatch z)
theorem Me {S:Addr→Prop}{H H1:Hp}{r a qs f l le kd:Addr}{p:Int}{b:ax} (hR:dt t H r a p) (A:QAt t S H qs f l le kd b) (nr:¬ S r) (x:Ext [r] H H1):QAt t S H1 qs f l le kd b:=
 A.told hR nr (iz hR A.fm x) (x.mono (fun y hy=>by rw[ag.mp hy];exact aI ..)) A.gd A.few ⟨[],(cq _).symm⟩
def JJ (K:ai) (t:Adr):Sp:=fun vs H Q _=>YH fun(r f a:Addr) (ns:List Int) (p:Nat) (l:Addr) (b:ax) (lo hi:Nat) (tl:List Int)=>vs=[.ref r,.ref f]∧dt t H r a p∧y9 K H a (ns.map V.int)∧cH t H f l b∧ns.drop p=(lo:Int)::(hi:Int)::tl∧
 ∀ H' o b' v,qQ b (decide (lo≤hi)) (.num lo hi)=(some b',qO v)→H' o=some (.lst [.int v])→H o=none→dt t H' r a (p+2:Nat)→cH t H' f l b'→Ext [r,l] H H'→Q (.ref o) H'
theorem J7 (T:Txt K mg t):cI P w K mg base CX0 3 t.lP t.oq ["reader","forms"] (JJ K t):=by
 refine T.oK.ok uw (fun vs H Q E h=>by obtain⟨_,_,_,_,_,_,_,_,_,_,e,_⟩:=h;subst e;rfl) (fun cdv A outer s H vs Q E hr h=>?_)
 obtain⟨r,f,a,ns,p,l,b,lo,hi,tl,rfl,hR,hA,F,hd,k⟩:=h
 refine⟨_,(ak (bW (i:=2) uw.nd rfl (ba rfl) (dc (pv 0) T.cC T.cO (cG T) (hr.mono (by decide)) T.cP .nil bw))
  (ak (bW (i:=3) uw.nd rfl (ba rfl) (dc (pv 0) T.cC T.cO (cG T) (hr.mono (by decide)) T.cP .nil bw))
  (aA (a6 (bX (ah (cn (pv 1) T.dA T.E5 (CL T) (hr.mono (by decide)) T.E9 .nil bw (ah (pv 2) (ah (pv 3) aq))) aq)))))),?_⟩
 obtain⟨h1,h2,_⟩:=cy hd
 obtain⟨h3,h4,_⟩:=cy h2
 obtain⟨dx,hr0⟩:=id hR
 refine⟨_,rfl,r,dx,_,rfl,hr0,rfl,r,a,p,ns,_,rfl,hR,hA,h1,fun H1 hR1 x1=>?_⟩
 obtain⟨dx1,hr1⟩:=id hR1
 have hA1:=lJ hR hA x1
 refine⟨_,rfl,r,dx1,_,rfl,hr1,rfl,r,a,p+1,ns,_,rfl,hR1,hA1,h3,fun H2 hR2 x2=>?_⟩
 have F2:=iz hR1 (iz hR F x1) x2
 obtain⟨df,hf⟩:=F2.obj
 obtain⟨n1,n2⟩:=Qi hR2 F2
 refine⟨_,rfl,f,df,_,rfl,hf,rfl,_,rfl,_,rfl,f,l,b,lo,hi,rfl,F2,fun H3 b' v e F3 x3=>⟨(by show 1≤sizeLine;decide),fun o ho=>?_⟩⟩
 have s4:=bg.new (o:=.lst [.int v]) ho
 obtain⟨bs3,hl3,_⟩:=F3.book
 obtain⟨dx2,hr2⟩:=id hR2
 have hr3:H3 r=some (.ins t.c8 dx2 (rf a (p+2:Nat))):=x3 _ _ hr2 (by simpa using n2)
 have x02:Ext [r] H H2:=x1.trans x2
 have x03:Ext [r,l] H H3:=(x02.mono (fun y hy=>by rw[ag.mp hy];exact aI ..)).trans (x3.mono (fun y hy=>by rw[ag.mp hy];simp))
 have n3:∀ c,H3 c=none→H c=none:=x03.none (fun c hc=>by
  simp only[aC,bN,or_false] at hc
  rcases hc with rfl | rfl
  ·rw[hr3];exact fun z=>nomatch z
  ·rw[hl3];exact fun z=>nomatch z)
 exact k _ o b' v e aE (n3 o ho) ⟨dx2,s4 _ _ hr3⟩ (F3.same s4) (x03.trans (Ext.of_same s4))
def Hk (K:ai) (t:Adr):Sp:=fun vs H Q _=>aaE fun(r f a:Addr) (ns:List Int) (p:Nat) (l:Addr) (b:ax) (of_ lo hi:Nat) (tl:List Int)=>vs=[.ref r,.ref f]∧dt t H r a p∧y9 K H a (ns.map V.int)∧cH t H f l b∧ns.drop p=(of_:Int)::(lo:Int)::(hi:Int)::tl∧
 ∀ H' o b' v,qQ b (decide (of_ < 16) && (decide (lo≤hi) && decide (hi≤32))) (.list of_ lo hi)=(some b',qO v)→H' o=some (.lst [.int v])→H o=none→dt t H' r a (p+3:Nat)→cH t H' f l b'→Ext [r,l] H H'→Q (.ref o) H'
theorem HV (T:Txt K mg t):cI P w K mg base CX0 3 t.kq t.mM ["reader","forms"] (Hk K t):=by
 refine T.mT.ok nU (fun vs H Q E h=>by obtain⟨_,_,_,_,_,_,_,_,_,_,_,e,_⟩:=h;subst e;rfl) (fun cdv A outer s H vs Q E hr h=>?_)
 obtain⟨r,f,a,ns,p,l,b,of_,lo,hi,tl,rfl,hR,hA,F,hd,k⟩:=h
 refine⟨_,(ak (bW (i:=2) nU.nd rfl (ba rfl) (dc (pv 0) T.cC T.cO (cG T) (hr.mono (by decide)) T.cP .nil bw))
  (ak (bW (i:=3) nU.nd rfl (ba rfl) (dc (pv 0) T.cC T.cO (cG T) (hr.mono (by decide)) T.cP .nil bw))
  (ak (bW (i:=4) nU.nd rfl (ba rfl) (dc (pv 0) T.cC T.cO (cG T) (hr.mono (by decide)) T.cP .nil bw))
  (aA (a6 (bX (ah (cn (pv 1) T.dA T.DD (Bw T) (hr.mono (by decide)) T.DR .nil bw (ah (pv 2) (ah (pv 3) (ah (pv 4) aq)))) aq))))))),?_⟩
 obtain⟨h1,h2,_⟩:=cy hd
 obtain⟨h3,h4,_⟩:=cy h2
 obtain⟨h5,h6,_⟩:=cy h4
 obtain⟨dx,hr0⟩:=id hR
 refine⟨_,rfl,r,dx,_,rfl,hr0,rfl,r,a,p,ns,_,rfl,hR,hA,h1,fun H1 hR1 x1=>?_⟩
 obtain⟨dx1,hr1⟩:=id hR1
 have hA1:=lJ hR hA x1
 refine⟨_,rfl,r,dx1,_,rfl,hr1,rfl,r,a,p+1,ns,_,rfl,hR1,hA1,h3,fun H2 hR2 x2=>?_⟩
 obtain⟨dx2,hr2⟩:=id hR2
 have hA2:=lJ hR1 hA1 x2
 refine⟨_,rfl,r,dx2,_,rfl,hr2,rfl,r,a,p+2,ns,_,rfl,hR2,hA2,h5,fun H2' aab x2'=>?_⟩
 have F2:=iz hR2 (iz hR1 (iz hR F x1) x2) x2'
 obtain⟨df,hf⟩:=F2.obj
 obtain⟨n1,n2⟩:=Qi aab F2
 refine⟨_,rfl,f,df,_,rfl,hf,rfl,_,rfl,_,rfl,_,rfl,f,l,b,of_,lo,hi,rfl,F2,fun H3 b' v e F3 x3=>⟨(by show 1≤sizeLine;decide),fun o ho=>?_⟩⟩
 have s4:=bg.new (o:=.lst [.int v]) ho
 obtain⟨bs3,hl3,_⟩:=F3.book
 obtain⟨dx3,acm⟩:=id aab
 have hr3:H3 r=some (.ins t.c8 dx3 (rf a (p+3:Nat))):=x3 _ _ acm (by simpa using n2)
 have x02:Ext [r] H H2':=(x1.trans x2).trans x2'
 have x03:Ext [r,l] H H3:=(x02.mono (fun y hy=>by rw[ag.mp hy];exact aI ..)).trans (x3.mono (fun y hy=>by rw[ag.mp hy];simp))
 have n3:∀ c,H3 c=none→H c=none:=x03.none (fun c hc=>by
  simp only[aC,bN,or_false] at hc
  rcases hc with rfl | rfl
  ·rw[hr3];exact fun z=>nomatch z
  ·rw[hl3];exact fun z=>nomatch z)
 exact k _ o b' v e aE (n3 o ho) ⟨dx3,s4 _ _ hr3⟩ (F3.same s4) (x03.trans (Ext.of_same s4))
end
end U
namespace U
open PySem PySem.Spec PyProof.Rows L2
open PySem.W (Codec)
open Ways KpFix KpWalk
section
variable {P:Program}{w:World}{K:ai}{mg:Str→Option Value}{base:Heap}{t:Adr}{C:Addr}
theorem VV {row:List Int} (h:∀ x∈row,0≤x):row.map V.int=nV (row.map Int.toNat):=by
 unfold nV nI
 rw[bt,bt]
 exact bF fun x hx=>by
  show V.int x=V.int ((x.toNat:Nat):Int)
  rw[nQ (h x hx)]
def L6 (K:ai) (t:Adr):Sp:=fun vs H Q _=>Ww fun(S:Addr→Prop) (r qs f l le kd a:Addr) (ns:List Int) (p:Nat) (b:ax) (n:Nat) (row tl:List Int)=>vs=[.ref r,.ref qs]∧dt t H r a p∧y9 K H a (ns.map V.int)∧QAt t S H qs f l le kd b∧¬ S r∧ns.drop p=(n:Int)::(row.length:Int)::(row++tl)∧(∀ x∈row,0≤x)∧row.length≤1000∧
 ∀ H' o,H' o=some (.lst ((gw (some b) (.is_ n (row.map Int.toNat))).map V.int))→H o=none→dt t H' r a (p+2+row.length:Nat)→QAt t S H' qs f l le kd b→Ext [r] H H'→Q (.ref o) H'
theorem Mx (T:Txt K mg t) (TE:TxE K mg C):cI P w K mg base CX0 8 t.nJ t.qB ["reader","questions"] (L6 K t):=by
 refine T.qI.ok Cn (fun vs H Q E h=>by obtain⟨_,_,_,_,_,_,_,_,_,_,_,_,_,_,e,_⟩:=h;subst e;rfl) (fun cdv A outer s H vs Q E hr h=>?_)
 obtain⟨S,r,qs,f,l,le,kd,a,ns,p,b,n,row,tl,rfl,hR,hA,A,nr,hd,OM,hlen,k⟩:=h
 refine⟨_,(ak (bW (i:=2) Cn.nd rfl (ba rfl) (dc (pv 0) T.cC T.cO (cG T) (hr.mono (by decide)) T.cP .nil bw))
  (aA (a6 (cn (pv 1) T.cJ T.xQ (wK T TE) (hr.mono (by decide)) T.xV .nil bw (ah (pv 2) (ah (dc (pv 0) T.cC T.wY (uG T) (hr.mono (by decide)) T.xf .nil bw) aq)))))),?_⟩
 obtain⟨h1,h2,_⟩:=cy hd
 obtain⟨dx,hr0⟩:=id hR
 refine⟨_,rfl,r,dx,_,rfl,hr0,rfl,r,a,p,ns,_,rfl,hR,hA,h1,fun H1 hR1 x1=>?_⟩
 obtain⟨dx1,hr1⟩:=id hR1
 have hA1:=lJ hR hA x1
 have A1:=Me hR A nr x1
 obtain⟨dq,hq⟩:=A1.obj
 refine⟨_,rfl,qs,dq,_,rfl,hq,rfl,_,rfl,_,rfl,r,dx1,_,rfl,hr1,rfl,r,a,p+1,ns,row,tl,rfl,hR1,hA1,h2,fun H2 nu hR2 hnu ZJ x2=>?_⟩
 have A2:=Me hR1 A1 nr x2
 rw[VV OM] at hnu
 refine⟨S,qs,f,l,le,kd,b,n,nu,row.map Int.toNat,rfl,A2,hnu,by rw[ae];exact hlen,fun H3 o ho hno s3=>?_⟩
 obtain⟨dx2,hr2⟩:=id hR2
 have x02:Ext [r] H H2:=x1.trans x2
 have n2:∀ c,H2 c=none→H c=none:=x02.none (fun c hc=>by rw[ag.mp hc,hr2];exact fun z=>nomatch z)
 exact k H3 o ho (n2 o hno) ⟨dx2,by rw[show p+2+row.length=p+1+1+row.length by omega];exact s3 _ _ hr2⟩ (A2.same s3) (x02.trans (Ext.of_same s3))
def Ea (K:ai) (t:Adr):Sp:=fun vs H Q _=>Ww fun(S:Addr→Prop) (r qs f l le kd a:Addr) (ns:List Int) (p:Nat) (b:ax) (n m:Nat) (tl:List Int)=>vs=[.ref r,.ref qs]∧dt t H r a p∧y9 K H a (ns.map V.int)∧QAt t S H qs f l le kd b∧¬ S r∧ns.drop p=(n:Int)::(m:Int)::tl∧
 ∀ H' S' o,H' o=some (.lst ((gw (some b) (.within n m)).map V.int))→H o=none→dt t H' r a (p+2:Nat)→QAt t S' H' qs f l le kd b→(∀ a,S' a→nw S H a)→Ext [r,kd] H H'→Q (.ref o) H'
theorem Ex (T:Txt K mg t):cI P w K mg base CX0 9 t.ik t.jU ["reader","questions"] (Ea K t):=by
 refine T.j3.ok pq (fun vs H Q E h=>by obtain⟨_,_,_,_,_,_,_,_,_,_,_,_,_,_,e,_⟩:=h;subst e;rfl) (fun cdv A outer s H vs Q E hr h=>?_)
 obtain⟨S,r,qs,f,l,le,kd,a,ns,p,b,n,m,tl,rfl,hR,hA,A,nr,hd,k⟩:=h
 refine⟨_,(ak (bW (i:=2) pq.nd rfl (ba rfl) (dc (pv 0) T.cC T.cO (cG T) (hr.mono (by decide)) T.cP .nil bw))
  (ak (bW (i:=3) pq.nd rfl (ba rfl) (dc (pv 0) T.cC T.cO (cG T) (hr.mono (by decide)) T.cP .nil bw))
  (aA (a6 (cn (pv 1) T.cJ T.tU (sU T) (hr.mono (by decide)) T.tW .nil bw (ah (pv 2) (ah (pv 3) aq))))))),?_⟩
 obtain⟨h1,h2,_⟩:=cy hd
 obtain⟨h3,h4,_⟩:=cy h2
 obtain⟨dx,hr0⟩:=id hR
 refine⟨_,rfl,r,dx,_,rfl,hr0,rfl,r,a,p,ns,_,rfl,hR,hA,h1,fun H1 hR1 x1=>?_⟩
 obtain⟨dx1,hr1⟩:=id hR1
 have hA1:=lJ hR hA x1
 have A1:=Me hR A nr x1
 refine⟨_,rfl,r,dx1,_,rfl,hr1,rfl,r,a,p+1,ns,_,rfl,hR1,hA1,h3,fun H2 hR2 x2=>?_⟩
 have A2:=Me hR1 A1 nr x2
 obtain⟨dq,hq⟩:=A2.obj
 obtain⟨dx2,hr2⟩:=id hR2
 obtain⟨_,_,n3⟩:=VU hR2 A2
 have x02:Ext [r] H H2:=x1.trans x2
 have n2:∀ c,H2 c=none→H c=none:=x02.none (fun c hc=>by rw[ag.mp hc,hr2];exact fun z=>nomatch z)
 refine⟨_,rfl,qs,dq,_,rfl,hq,rfl,_,rfl,_,rfl,S,qs,f,l,le,kd,b,n,m,rfl,A2,fun H3 S3 o ho hno A3 Td x3=>?_⟩
 exact k H3 S3 o ho (n2 o hno) ⟨dx2,x3 _ _ hr2 (by simpa using n3)⟩ A3 (fun c hc=>CN n2 c (Td c hc)) ((x02.mono (fun y hy=>by rw[ag.mp hy];exact aI ..)).trans (x3.mono (fun y hy=>by rw[ag.mp hy];simp)))
def Done (K:ai) (t:Adr) (S:Addr→Prop) (H:Hp) (r f qs a:Addr) (ns:List Int) (l le kd:Addr) (s:vY) (c:nT) (tl:List Int) (Q:VK):Prop:=
 ∀ H' o S' l' le' kd' b' p',H' o=some (.lst ((gw s c).map V.int))→H o=none→KC K t S' H' r f qs a ns p' l' le' kd' b'→(l'=l∨H l'=none)→(∀ c,S' c→nw S H c)→ns.drop p'=tl→(cA s c).1=some b'→Ext [r,f,qs,l,kd] H H'→Q (.ref o) H'
def Hl (K:ai) (t:Adr):Sp:=fun vs H Q _=>Ww fun(S:Addr→Prop) (r f qs a:Addr) (ns:List Int) (p:Nat) (l le kd:Addr) (b:ax) (s:vY) (c:nT) (tl:List Int)=>vs=[.ref r,.ref f,.ref qs]∧KC K t S H r f qs a ns p l le kd b∧ns.length≤30000∧
 KpTop.One (ns.drop p) c tl∧(c=.begin_∨s=some b)∧Done K t S H r f qs a ns l le kd s c tl Q
theorem Done.tell {S:Addr→Prop}{H:Hp}{r f qs a:Addr}{ns:List Int}{p:Nat}{l le kd:Addr}{b:ax}{c:nT}{tl:List Int}{Q:VK} (k:Done K t S H r f qs a ns l le kd (some b) c tl Q) (D:KC K t S H r f qs a ns p l le kd b)
 {g:Bool}{x:cp}{b':ax}{v:Int}{H':Hp}{o:Addr}{p':Nat} (hs:cA (some b) c=qQ b g x) (hx:g=true→Good x) (e:qQ b g x=(some b',qO v)) (ho:H' o=some (.lst [.int v])) (hno:H o=none) (hR:dt t H' r a p') (F:cH t H' f l b') (x':Ext [r,l] H H') (hp:ns.drop p'=tl):Q (.ref o) H':=by
 obtain⟨h1,h2,h3⟩:=Vc e hx D.q.gd D.q.few
 refine k H' o S l le kd b' p' ?_ hno ⟨hR,D.ar.keep (la.sV x' fun m hm o h=>D.noI m ?_ o h),D.q.told D.rd D.nr F x' h1 h2 h3,D.nr⟩ (.inl rfl) (fun c hc=>.inl hc) hp (by rw[hs,e]) (x'.mono fun m hm=>?_)
 ·unfold gw
  rw[hs,e,ho]
  rfl
 ·simp only[aC,bN,or_false] at hm ⊢
  rcases hm with rfl | rfl<;>simp
 ·simp only[aC,bN,or_false] at hm ⊢
  rcases hm with rfl | rfl<;>simp
end
end U
namespace U
open PySem PySem.Spec PyProof.Rows L2
open PySem.W (Codec)
open Ways KpFix KpWalk
section
variable {P:Program}{w:World}{K:ai}{mg:Str→Option Value}{base:Heap}{t:Adr}{C:Addr}
theorem QF {q:Int×Int×Int} (h1:0≤q.1) (h2:q.2.1=0∨q.2.1=1) (h3:0≤q.2.2):kF (KpTop.fieldOf q)=q:=by
 obtain⟨x,y,z⟩:=q
 dsimp only at h1 h2 h3
 unfold KpTop.fieldOf kF
 dsimp only
 rw[nQ h1,nQ h3]
 rcases h2 with rfl | rfl<;>rfl
theorem Va {q:Int×Int} (h1:0≤q.1) (h3:0≤q.2):Jd (KpTop.altOf q)=q:=by
 obtain⟨x,z⟩:=q
 dsimp only at h1 h3
 unfold KpTop.altOf Jd
 dsimp only
 rw[nQ h1,nQ h3]
theorem rF {x:Addr}{M:List Addr}{H H':Hp} (h:Ext [x] H H') (m:x∈M):Ext M H H':=h.mono fun y hy=>by rw[ag.mp hy];exact m
theorem HW (T:Txt K mg t) (TE:TxE K mg C):cI P w K mg base CX0 10 t.kr t.mO ["reader","forms","questions"] (Hl K t):=by
 refine T.mU.ok yy (fun vs H Q E h=>by obtain⟨_,_,_,_,_,_,_,_,_,_,_,_,_,_,e,_⟩:=h;subst e;rfl) (fun cdv A outer s H vs Q E hr h=>?_)
 obtain⟨S,r,f,qs,a,ns,p,l,le,kd,b,s0,c,tl,rfl,D,hlen,Ut,hs,k⟩:=h
 refine⟨_,(ak (bW (i:=3) yy.nd rfl (ba rfl) (dc (pv 0) T.cC T.cO (cG T) (hr.mono (by decide)) T.cP .nil bw))
  (ak (b9 (bo fe (pv 3) (bz rfl T.Wv T.Wr) (bL _)) (aA (a6 (bX (ah (dc (pv 2) T.cJ T.DB (Bu T) (hr.mono (by decide)) T.DO .nil bw) aq)))) bp)
  (ak (b9 (bo fe (pv 3) (bz rfl T.QU T.QR) (bL _)) (aA (a6 (bG (J7 T) (hr.mono (by decide)) rfl T.Nt T.oK.kp T.NB .nil bw (ah (pv 0) (ah (pv 1) aq))))) bp)
  (ak (b9 (bo fe (pv 3) (bz rfl T.Pw T.Po) (bL _)) (aA (a6 (bX (ah (cn (pv 1) T.dA T.DC (Bv T) (hr.mono (by decide)) T.DQ .nil bw (ah (dc (pv 0) T.cC T.cO (cG T) (hr.mono (by decide)) T.cP .nil bw) aq)) aq)))) bp)
  (ak (b9 (bo fe (pv 3) (bz rfl T.Py T.Pp) (bL _)) (aA (a6 (bG (HV T) (hr.mono (by decide)) rfl T.Kw T.mT.kp T.KG .nil bw (ah (pv 0) (ah (pv 1) aq))))) bp)
  (ak (b9 (bo fe (pv 3) (bz rfl T.Ky T.Ks) (bL _)) (aA (a6 (bX (ah (cn (pv 1) T.dA T.Ae (yN T) (hr.mono (by decide)) T.Ar .nil bw (ah (dc (pv 0) T.cC T.wY (uG T) (hr.mono (by decide)) T.xf .nil bw) aq)) aq)))) bp)
  (ak (b9 (bo fe (pv 3) (bz rfl T.Kz T.Kt) (bL _)) (aA (a6 (bX (ah (cn (pv 1) T.dA T.Af (yO T) (hr.mono (by decide)) T.As .nil bw (ah (dc (pv 0) T.cC T.wY (uG T) (hr.mono (by decide)) T.xf .nil bw) aq)) aq)))) bp)
  (ak (b9 (bo fe (pv 3) (bz rfl T.ac3 T.ac2) (bL _)) (aA (a6 (bG (Mx T TE) (hr.mono (by decide)) rfl T.Pu T.qI.kp T.PD .nil bw (ah (pv 0) (ah (pv 2) aq))))) bp)
  (ak (b9 (bo fe (pv 3) (bz rfl T.YG T.Yz) (bL _)) (aA (a6 (cn (pv 2) T.cJ T.vO (uH T) (hr.mono (by decide)) T.vW .nil bw (ah (dc (pv 0) T.cC T.cO (cG T) (hr.mono (by decide)) T.cP .nil bw) aq)))) bp)
  (ak (b9 (bo fe (pv 3) (bz rfl T.Vo T.Vh) (bL _)) (aA (a6 (bG (Ex T) (hr.mono (by decide)) rfl T.Gy T.j3.kp T.GB .nil bw (ah (pv 0) (ah (pv 2) aq))))) bp)
  (aA Tz))))))))))),?_⟩
 obtain⟨dr,hr0⟩:=id D.rd
 generalize hdp:ns.drop p=ln at Ut
 cases Ut with
 | begin_=>
   obtain⟨h1,h2,_⟩:=cy hdp
   refine⟨_,rfl,r,dr,_,rfl,hr0,rfl,r,a,p,ns,_,rfl,D.rd,D.ar,h1,fun H1 hR1 x1=>?_⟩
   have A1:=Me D.rd D.q D.nr x1
   obtain⟨dq,hq⟩:=A1.obj
   obtain⟨dr1,hr1⟩:=id hR1
   refine⟨_,rfl,rfl,_,rfl,nz rfl ?_⟩
   refine⟨_,rfl,qs,dq,_,rfl,hq,rfl,S,qs,f,l,le,kd,b,rfl,A1,fun H2 l' le' kd' A2 hl' adh adi x2=>⟨(by show 1≤sizeLine;decide),fun o ho=>?_⟩⟩
   have n1:∀ c,H1 c=none→H c=none:=x1.none (fun c hc=>by rw[ag.mp hc,hr1];exact fun z=>nomatch z)
   obtain⟨dq2,hq2⟩:=A2.obj
   obtain⟨df2,hf2⟩:=A2.fm.obj
   have n2:∀ c,H2 c=none→H1 c=none:=x2.none (fun c hc=>by
    simp only[aC,bN,or_false] at hc
    rcases hc with rfl | rfl
    ·rw[hq2];exact fun z=>nomatch z
    ·rw[hf2];exact fun z=>nomatch z)
   have s3:=bg.new (o:=.lst [.int 0]) ho
   obtain⟨m1,_⟩:=Qi hR1 A1.fm
   obtain⟨m2,_⟩:=VU hR1 A1
   have hr2:=s3 _ _ (x2 _ _ hr1 (by simp[m1,m2]))
   have x03:Ext [r,f,qs,l,kd] H (upd H2 o (.lst [.int 0])):=((rF x1 (by simp)).trans (x2.mono (fun y hy=>by
    simp only[aC,bN,or_false] at hy ⊢
    rcases hy with rfl | rfl<;>simp))).trans (Ext.of_same s3)
   refine k _ o no l' le' kd' [] (p+1) aE (n1 o (n2 o ho)) ⟨⟨dr1,hr2⟩,D.ar.keep (la.sV x03 D.noI),A2.same s3,id⟩ (.inr (n1 _ hl')) (fun c hc=>absurd hc id) h2 rfl x03
 | @num x y _ hx hy=>
   obtain rfl:s0=some b:=hs.resolve_left (by intro z;cases z)
   obtain⟨x,rfl⟩:=cE hx
   obtain⟨y,rfl⟩:=cE hy
   obtain⟨h1,h2,_⟩:=cy hdp
   refine⟨_,rfl,r,dr,_,rfl,hr0,rfl,r,a,p,ns,_,rfl,D.rd,D.ar,h1,fun H1 hR1 x1=>?_⟩
   have hA1:=lJ D.rd D.ar x1
   have F1:=iz D.rd D.q.fm x1
   obtain⟨dr1,hr1⟩:=id hR1
   have n1:∀ c,H1 c=none→H c=none:=x1.none (fun c hc=>by rw[ag.mp hc,hr1];exact fun z=>nomatch z)
   refine⟨_,rfl,rfl,_,rfl,c5 (by decide) ?_⟩
   refine⟨_,rfl,rfl,_,rfl,nz rfl ?_⟩
   refine⟨_,rfl,_,rfl,r,f,a,ns,p+1,l,b,x,y,tl,rfl,hR1,hA1,F1,h2,fun H2 o b' v e ho hno hR2 F2 x2=>?_⟩
   exact k.tell D (c:=.num x y) rfl (fun _=>trivial) e ho (n1 o hno) hR2 F2 ((rF x1 (by simp)).trans x2) (cy (cy h2).2.1).2.1
 | @text x _ hx=>
   obtain rfl:s0=some b:=hs.resolve_left (by intro z;cases z)
   obtain⟨x,rfl⟩:=cE hx
   obtain⟨h1,h2,_⟩:=cy hdp
   obtain⟨h3,h4,_⟩:=cy h2
   refine⟨_,rfl,r,dr,_,rfl,hr0,rfl,r,a,p,ns,_,rfl,D.rd,D.ar,h1,fun H1 hR1 x1=>?_⟩
   have hA1:=lJ D.rd D.ar x1
   have F1:=iz D.rd D.q.fm x1
   obtain⟨dr1,hr1⟩:=id hR1
   obtain⟨df1,hf1⟩:=F1.obj
   refine⟨_,rfl,rfl,_,rfl,c5 (by decide) ?_⟩
   refine⟨_,rfl,rfl,_,rfl,c5 (by decide) ?_⟩
   refine⟨_,rfl,rfl,_,rfl,nz rfl ?_⟩
   refine⟨_,rfl,f,df1,_,rfl,hf1,rfl,_,rfl,r,dr1,_,rfl,hr1,rfl,r,a,p+1,ns,_,rfl,hR1,hA1,h3,fun H2 hR2 x2=>?_⟩
   have F2:=iz hR1 F1 x2
   obtain⟨dr2,hr2⟩:=id hR2
   obtain⟨_,n3⟩:=Qi hR2 F2
   refine⟨f,l,b,x,rfl,F2,fun H3 b' v e F3 x3=>⟨(by show 1≤sizeLine;decide),fun o ho=>?_⟩⟩
   have s4:=bg.new (o:=.lst [.int v]) ho
   have hr3:=x3 _ _ hr2 (by simpa using n3)
   obtain⟨bs3,hl3,_⟩:=F3.book
   have x03:Ext [r,l] H H3:=((rF x1 (by simp)).trans (rF x2 (by simp))).trans (rF x3 (by simp))
   have nn:∀ c,H3 c=none→H c=none:=x03.none (fun c hc=>by
    simp only[aC,bN,or_false] at hc
    rcases hc with rfl | rfl
    ·rw[hr3];exact fun z=>nomatch z
    ·rw[hl3];exact fun z=>nomatch z)
   exact k.tell D (c:=.text x) (H':=upd H3 o (.lst [.int v])) (p':=p+1+1) rfl (fun z=>(of_decide_eq_true z:x≤100)) e aE (nn o ho) ⟨dr2,s4 _ _ hr3⟩ (F3.same s4) (x03.trans (Ext.of_same s4)) h4
 | @list o1 x y _ ho1 hx hy=>
   obtain rfl:s0=some b:=hs.resolve_left (by intro z;cases z)
   obtain⟨o1,rfl⟩:=cE ho1
   obtain⟨x,rfl⟩:=cE hx
   obtain⟨y,rfl⟩:=cE hy
   obtain⟨h1,h2,_⟩:=cy hdp
   refine⟨_,rfl,r,dr,_,rfl,hr0,rfl,r,a,p,ns,_,rfl,D.rd,D.ar,h1,fun H1 hR1 x1=>?_⟩
   have hA1:=lJ D.rd D.ar x1
   have F1:=iz D.rd D.q.fm x1
   obtain⟨dr1,hr1⟩:=id hR1
   have n1:∀ c,H1 c=none→H c=none:=x1.none (fun c hc=>by rw[ag.mp hc,hr1];exact fun z=>nomatch z)
   refine⟨_,rfl,rfl,_,rfl,c5 (by decide) ?_⟩
   refine⟨_,rfl,rfl,_,rfl,c5 (by decide) ?_⟩
   refine⟨_,rfl,rfl,_,rfl,c5 (by decide) ?_⟩
   refine⟨_,rfl,rfl,_,rfl,nz rfl ?_⟩
   refine⟨_,rfl,_,rfl,r,f,a,ns,p+1,l,b,o1,x,y,tl,rfl,hR1,hA1,F1,h2,fun H2 o b' v e ho hno hR2 F2 x2=>?_⟩
   refine k.tell D (c:=.list o1 x y) rfl (fun z=>?_) e ho (n1 o hno) hR2 F2 ((rF x1 (by simp)).trans x2) (cy (cy (cy h2).2.1).2.1).2.1
   rw[a5,a5] at z
   exact⟨of_decide_eq_true z.2.1,of_decide_eq_true z.2.2⟩
 | @record row _ h3 OM acr=>
   obtain rfl:s0=some b:=hs.resolve_left (by intro z;cases z)
   obtain⟨h1,h2,hpl⟩:=cy hdp
   have hrl:row.length≤30000:=by
    have:=congrArg ja h2
    rw[dy,aM,au] at this
    omega
   refine⟨_,rfl,r,dr,_,rfl,hr0,rfl,r,a,p,ns,_,rfl,D.rd,D.ar,h1,fun H1 hR1 x1=>?_⟩
   have hA1:=lJ D.rd D.ar x1
   have F1:=iz D.rd D.q.fm x1
   obtain⟨dr1,hr1⟩:=id hR1
   obtain⟨df1,hf1⟩:=F1.obj
   refine⟨_,rfl,rfl,_,rfl,c5 (by decide) ?_⟩
   refine⟨_,rfl,rfl,_,rfl,c5 (by decide) ?_⟩
   refine⟨_,rfl,rfl,_,rfl,c5 (by decide) ?_⟩
   refine⟨_,rfl,rfl,_,rfl,c5 (by decide) ?_⟩
   refine⟨_,rfl,rfl,_,rfl,nz rfl ?_⟩
   refine⟨_,rfl,f,df1,_,rfl,hf1,rfl,_,rfl,r,dr1,_,rfl,hr1,rfl,r,a,p+1,ns,row,tl,rfl,hR1,hA1,h2,fun H2 nu hR2 hnu ZJ x2=>?_⟩
   have F2:=iz hR1 F1 x2
   obtain⟨dr2,hr2⟩:=id hR2
   obtain⟨_,n3⟩:=Qi hR2 F2
   refine⟨f,l,b,nu,row,rfl,F2,SqL.of hnu,h3,hrl,fun q hq=>?_,fun H3 b' v e F3 x3=>⟨(by show 1≤sizeLine;decide),fun o ho=>?_⟩⟩
   ·obtain⟨m1,m2,m3⟩:=KpTop.QX (l:=row) hq
    exact QF (OM _ m1) (acr q hq) (OM _ m3)
   have s4:=bg.new (o:=.lst [.int v]) ho
   have hr3:=x3 _ _ hr2 (by simpa using n3)
   obtain⟨bs3,hl3,_⟩:=F3.book
   have x03:Ext [r,l] H H3:=((rF x1 (by simp)).trans (rF x2 (by simp))).trans (rF x3 (by simp))
   have nn:∀ c,H3 c=none→H c=none:=x03.none (fun c hc=>by
    simp only[aC,bN,or_false] at hc
    rcases hc with rfl | rfl
    ·rw[hr3];exact fun z=>nomatch z
    ·rw[hl3];exact fun z=>nomatch z)
   refine k.tell D (c:=.record ((KpTop.tri row).map KpTop.fieldOf)) (H':=upd H3 o (.lst [.int v])) (p':=p+1+1+row.length) rfl (fun z=>Ft z) e aE (nn o ho) ⟨dr2,s4 _ _ hr3⟩ (F3.same s4) (x03.trans (Ext.of_same s4)) ?_
   rw[← BY,(cy h2).2.1,List.drop_left]
 | @choice row _ h3 OM=>
   obtain rfl:s0=some b:=hs.resolve_left (by intro z;cases z)
   obtain⟨h1,h2,hpl⟩:=cy hdp
   have hrl:row.length≤30000:=by
    have:=congrArg ja h2
    rw[dy,aM,au] at this
    omega
   refine⟨_,rfl,r,dr,_,rfl,hr0,rfl,r,a,p,ns,_,rfl,D.rd,D.ar,h1,fun H1 hR1 x1=>?_⟩
   have hA1:=lJ D.rd D.ar x1
   have F1:=iz D.rd D.q.fm x1
   obtain⟨dr1,hr1⟩:=id hR1
   obtain⟨df1,hf1⟩:=F1.obj
   refine⟨_,rfl,rfl,_,rfl,c5 (by decide) ?_⟩
   refine⟨_,rfl,rfl,_,rfl,c5 (by decide) ?_⟩
   refine⟨_,rfl,rfl,_,rfl,c5 (by decide) ?_⟩
   refine⟨_,rfl,rfl,_,rfl,c5 (by decide) ?_⟩
   refine⟨_,rfl,rfl,_,rfl,c5 (by decide) ?_⟩
   refine⟨_,rfl,rfl,_,rfl,nz rfl ?_⟩
   refine⟨_,rfl,f,df1,_,rfl,hf1,rfl,_,rfl,r,dr1,_,rfl,hr1,rfl,r,a,p+1,ns,row,tl,rfl,hR1,hA1,h2,fun H2 nu hR2 hnu ZJ x2=>?_⟩
   have F2:=iz hR1 F1 x2
   obtain⟨dr2,hr2⟩:=id hR2
   obtain⟨_,n3⟩:=Qi hR2 F2
   refine⟨f,l,b,nu,row,rfl,F2,SqL.of hnu,h3,hrl,fun q hq=>?_,fun H3 b' v e F3 x3=>⟨(by show 1≤sizeLine;decide),fun o ho=>?_⟩⟩
   ·obtain⟨m1,m2⟩:=KpTop.Rv hq
    exact Va (OM _ m1) (OM _ m2)
   have s4:=bg.new (o:=.lst [.int v]) ho
   have hr3:=x3 _ _ hr2 (by simpa using n3)
   obtain⟨bs3,hl3,_⟩:=F3.book
   have x03:Ext [r,l] H H3:=((rF x1 (by simp)).trans (rF x2 (by simp))).trans (rF x3 (by simp))
   have nn:∀ c,H3 c=none→H c=none:=x03.none (fun c hc=>by
    simp only[aC,bN,or_false] at hc
    rcases hc with rfl | rfl
    ·rw[hr3];exact fun z=>nomatch z
    ·rw[hl3];exact fun z=>nomatch z)
   refine k.tell D (c:=.choice ((KpTop.duo row).map KpTop.altOf)) (H':=upd H3 o (.lst [.int v])) (p':=p+1+1+row.length) rfl (fun z=>Ft (a5 _ _▸z).1) e aE (nn o ho) ⟨dr2,s4 _ _ hr3⟩ (F3.same s4) (x03.trans (Ext.of_same s4)) ?_
   rw[← BY,(cy h2).2.1,List.drop_left]
 | @is_ n row _ hn ack hb=>
   obtain rfl:s0=some b:=hs.resolve_left (by intro z;cases z)
   obtain⟨n,rfl⟩:=cE hn
   obtain⟨h1,h2,hpl⟩:=cy hdp
   refine⟨_,rfl,r,dr,_,rfl,hr0,rfl,r,a,p,ns,_,rfl,D.rd,D.ar,h1,fun H1 hR1 x1=>?_⟩
   have hA1:=lJ D.rd D.ar x1
   have A1:=Me D.rd D.q D.nr x1
   obtain⟨dr1,hr1⟩:=id hR1
   have n1:∀ c,H1 c=none→H c=none:=x1.none (fun c hc=>by rw[ag.mp hc,hr1];exact fun z=>nomatch z)
   refine⟨_,rfl,rfl,_,rfl,c5 (by decide) ?_⟩
   refine⟨_,rfl,rfl,_,rfl,c5 (by decide) ?_⟩
   refine⟨_,rfl,rfl,_,rfl,c5 (by decide) ?_⟩
   refine⟨_,rfl,rfl,_,rfl,c5 (by decide) ?_⟩
   refine⟨_,rfl,rfl,_,rfl,c5 (by decide) ?_⟩
   refine⟨_,rfl,rfl,_,rfl,c5 (by decide) ?_⟩
   refine⟨_,rfl,rfl,_,rfl,nz rfl ?_⟩
   refine⟨_,rfl,_,rfl,S,r,qs,f,l,le,kd,a,ns,p+1,b,n,row,tl,rfl,hR1,hA1,A1,D.nr,h2,fun x hx=>(hb x hx).1,ack,fun H2 o ho hno hR2 A2 x2=>?_⟩
   have x02:Ext [r,f,qs,l,kd] H H2:=rF (x1.trans x2) (by simp)
   refine k H2 o S l le kd b (p+1+2+row.length) ho (n1 o hno) ⟨hR2,D.ar.keep (la.sV x02 D.noI),A2,D.nr⟩ (.inl rfl) (fun c hc=>.inl hc) ?_ rfl x02
   rw[show p+1+2+row.length=(p+1+1+1)+row.length by omega,← BY,(cy (cy h2).2.1).2.1,List.drop_left]
 | @some_ n _ hn=>
   obtain rfl:s0=some b:=hs.resolve_left (by intro z;cases z)
   obtain⟨n,rfl⟩:=cE hn
   obtain⟨h1,h2,hpl⟩:=cy hdp
   obtain⟨h3,h4,_⟩:=cy h2
   refine⟨_,rfl,r,dr,_,rfl,hr0,rfl,r,a,p,ns,_,rfl,D.rd,D.ar,h1,fun H1 hR1 x1=>?_⟩
   have hA1:=lJ D.rd D.ar x1
   have A1:=Me D.rd D.q D.nr x1
   obtain⟨dr1,hr1⟩:=id hR1
   obtain⟨dq1,hq1⟩:=A1.obj
   refine⟨_,rfl,rfl,_,rfl,c5 (by decide) ?_⟩
   refine⟨_,rfl,rfl,_,rfl,c5 (by decide) ?_⟩
   refine⟨_,rfl,rfl,_,rfl,c5 (by decide) ?_⟩
   refine⟨_,rfl,rfl,_,rfl,c5 (by decide) ?_⟩
   refine⟨_,rfl,rfl,_,rfl,c5 (by decide) ?_⟩
   refine⟨_,rfl,rfl,_,rfl,c5 (by decide) ?_⟩
   refine⟨_,rfl,rfl,_,rfl,c5 (by decide) ?_⟩
   refine⟨_,rfl,rfl,_,rfl,nz rfl ?_⟩
   refine⟨_,rfl,qs,dq1,_,rfl,hq1,rfl,_,rfl,r,dr1,_,rfl,hr1,rfl,r,a,p+1,ns,_,rfl,hR1,hA1,h3,fun H2 hR2 x2=>?_⟩
   have A2:=Me hR1 A1 D.nr x2
   obtain⟨dr2,hr2⟩:=id hR2
   obtain⟨_,_,n3⟩:=VU hR2 A2
   have xx:Ext [r] H H2:=x1.trans x2
   have n2:∀ c,H2 c=none→H c=none:=xx.none (fun c hc=>by rw[ag.mp hc,hr2];exact fun z=>nomatch z)
   refine⟨S,qs,f,l,le,kd,b,n,rfl,A2,fun H3 S3 o ho hno A3 Td x3=>?_⟩
   have x03:Ext [r,f,qs,l,kd] H H3:=(rF xx (by simp)).trans (rF x3 (by simp))
   have sub:∀ c,S3 c→nw S H c:=fun c hc=>CN n2 c (Td c hc)
   refine k H3 o S3 l le kd b (p+1+1) ho (n2 o hno) ⟨⟨dr2,x3 _ _ hr2 (by simpa using n3)⟩,D.ar.keep (la.sV x03 D.noI),A3,fun z=>(sub r z).elim D.nr fun e=>?_⟩ (.inl rfl) sub h4 rfl x03
   rw[hr0] at e
   cases e
 | @within n m _ hn hm=>
   obtain rfl:s0=some b:=hs.resolve_left (by intro z;cases z)
   obtain⟨n,rfl⟩:=cE hn
   obtain⟨m,rfl⟩:=cE hm
   obtain⟨h1,h2,hpl⟩:=cy hdp
   refine⟨_,rfl,r,dr,_,rfl,hr0,rfl,r,a,p,ns,_,rfl,D.rd,D.ar,h1,fun H1 hR1 x1=>?_⟩
   have hA1:=lJ D.rd D.ar x1
   have A1:=Me D.rd D.q D.nr x1
   obtain⟨dr1,hr1⟩:=id hR1
   have n1:∀ c,H1 c=none→H c=none:=x1.none (fun c hc=>by rw[ag.mp hc,hr1];exact fun z=>nomatch z)
   refine⟨_,rfl,rfl,_,rfl,c5 (by decide) ?_⟩
   refine⟨_,rfl,rfl,_,rfl,c5 (by decide) ?_⟩
   refine⟨_,rfl,rfl,_,rfl,c5 (by decide) ?_⟩
   refine⟨_,rfl,rfl,_,rfl,c5 (by decide) ?_⟩
   refine⟨_,rfl,rfl,_,rfl,c5 (by decide) ?_⟩
   refine⟨_,rfl,rfl,_,rfl,c5 (by decide) ?_⟩
   refine⟨_,rfl,rfl,_,rfl,c5 (by decide) ?_⟩
   refine⟨_,rfl,rfl,_,rfl,c5 (by decide) ?_⟩
   refine⟨_,rfl,rfl,_,rfl,nz rfl ?_⟩
   refine⟨_,rfl,_,rfl,S,r,qs,f,l,le,kd,a,ns,p+1,b,n,m,tl,rfl,hR1,hA1,A1,D.nr,h2,fun H2 S2 o ho hno hR2 A2 aaP x2=>?_⟩
   have x02:Ext [r,f,qs,l,kd] H H2:=(rF x1 (by simp)).trans (x2.mono (fun y hy=>by
    simp only[aC,bN,or_false] at hy ⊢
    rcases hy with rfl | rfl<;>simp))
   have sub:∀ c,S2 c→nw S H c:=fun c hc=>CN n1 c (aaP c hc)
   refine k H2 o S2 l le kd b (p+1+2) ho (n1 o hno) ⟨hR2,D.ar.keep (la.sV x02 D.noI),A2,fun z=>(sub r z).elim D.nr fun e=>?_⟩ (.inl rfl) sub (cy (cy h2).2.1).2.1 rfl x02
   rw[hr0] at e
   cases e
end
end U
namespace U
open PySem PySem.Spec PyProof.Rows L2
open PySem.W (Codec)
open Ways KpFix KpWalk
section
variable {P:Program}{w:World}{K:ai}{mg:Str→Option Value}{base:Heap}{t:Adr}{C:Addr}
def Hh (K:ai):Sp:=fun vs H Q _=>Ex2 fun(a:Addr) (ns:List Int)=>vs=[.ref a]∧y9 K H a (ns.map V.int)∧ns.length≤30000∧yd ns=true∧∀ (H':Hp) (p:Addr),H' p=some (.lst ((xX ns).map V.int))→Q (.ref p) H'
theorem One.short {l:List Int}{c:nT}{tl:List Int} (h:KpTop.One l c tl):tl.length < l.length:=by
 cases h<;>simp<;>omega
theorem Chain.inv {l:List Int}{cs:List nT} (h:KpTop.Chain l cs) (n:l≠[]):∃ c tl cs',cs=c::cs'∧KpTop.One l c tl∧KpTop.Chain tl cs':=by
 cases h with
 | nil=>exact absurd rfl n
 | cons o c=>exact⟨_,_,_,rfl,o,c⟩
theorem Chain.empty {l:List Int}{cs:List nT} (h:KpTop.Chain l cs) (n:l=[]):cs=[]:=by
 cases h with
 | nil=>rfl
 | cons o c=>subst n;cases o
theorem SE (s:vY) (c:nT) (cs:List nT):KpTop.flat s (c::cs)=((gw s c).length:Int)::(gw s c++KpTop.flat (cA s c).1 cs):=by
 have e:KpTop.flat s (c::cs)=(((cA s c).2.nums.length+1:Nat):Int)::(cA s c).2.num::(bT (cA s c).2.nums++KpTop.flat (cA s c).1 cs):=rfl
 have e2:(gw s c).length=(cA s c).2.nums.length+1:=by
  unfold gw bT
  rw[aM,ae]
 rw[e,e2]
 rfl
theorem KC.off {S:Addr→Prop}{H:Hp}{r f qs a:Addr}{ns:List Int}{p:Nat}{l le kd:Addr}{b:ax} (D:KC K t S H r f qs a ns p l le kd b) {g:Addr}{xs:List V}{o:HO} (hg:H g=some (.lst xs)) (hS:¬ S g) (gl:g≠l):KC K t S (upd H g o) r f qs a ns p l le kd b:=by
 obtain⟨dr,hr⟩:=D.rd
 obtain⟨dq,hq⟩:=D.q.obj
 obtain⟨df,hf⟩:=D.q.fm.obj
 obtain⟨dl,hle⟩:=D.q.ls.obj
 obtain⟨kvs,hk⟩:=D.q.ls.kdT
 have x:Ext [g] H (upd H g o):=Ext.put (by simp)
 have nt:∀ m∈[g],∀ xs,H m≠some (.tup xs):=fun m hm xs=>by rw[ag.mp hm,hg];exact fun z=>nomatch z
 have ni:∀ {m C dx fs},H m=some (.ins C dx fs)→m∉[g]:=fun h=>by simpa using cu h hg (by intro z;cases z)
 have nk:kd∉[g]:=by simpa using cu hk hg (by intro z;cases z)
 refine⟨⟨dr,x _ _ hr (ni hr)⟩,D.ar.keep (la.put hg id),⟨⟨dq,x _ _ hq (ni hq)⟩,D.q.fm.ext x (ni hf) (by simpa using br gl) nt,D.q.ls.ext x (ni hle) nk (fun m hm=>⟨by rw[ag.mp hm];exact hS,nt m hm⟩),D.q.gd,D.q.few⟩,D.nr⟩
theorem Qh (T:Txt K mg t) (TE:TxE K mg C):cI P w K mg base CX0 11 t.sA t.sC ["calls"] (Hh K):=by
 refine T.vT.ok pj (fun vs H Q E h=>by obtain⟨_,_,e,_⟩:=h;subst e;rfl) (fun cdv A outer s H vs Q E hr h=>?_)
 obtain⟨a,ns,rfl,hA,hl,Yf,k⟩:=h
 obtain⟨xs,hC,adn,Wc⟩:=KpTop.Pf Yf
 refine⟨_,(ak (bW (i:=1) pj.nd rfl (ba rfl) (zf T.Vm (HY T) (hr.mono (by decide)) rfl T.Vq T.KJ .nil bw (ah (pv 0) aq)))
  (ak (bW (i:=2) pj.nd rfl (ba rfl) (TF T.Wt (J8 T) (hr.mono (by decide)) rfl T.Wu T.NC .nil bw))
  (ak (bW (i:=3) pj.nd rfl (ba rfl) (zf T.Pr (CK T) (hr.mono (by decide)) rfl T.Px T.E8 .nil bw (ah (pv 2) aq)))
  (ak (bW (i:=4) pj.nd rfl (ba rfl) (bX aq))
  (ak (HE PassesOwn.never (uE (dc (pv 1) T.cC T.DA (Bt T) (hr.mono (by decide)) T.DN .nil bw)) (ak (bW (i:=5) pj.nd rfl (ba rfl) (bG (HW T TE) (hr.mono (by decide)) rfl T.Kx T.mU.kp T.KH .nil bw (ah (pv 1) (ah (pv 2) (ah (pv 3) aq)))))
  (ak (cw (l5 aW bB bA d5 (pv 4) (ah (dH cj (by rfl) T.nO cb (ah (pv 5) aq)) aq)))
  (aA (cw (l5 aW i7 i6 vk (pv 4) (ah (pv 5) aq)))))))
  (aA (a6 (pv 4)))))))),?_⟩
 refine⟨_,rfl,?_⟩
 intro r d0 n0 m0 e0
 refine⟨r,a,d0,rfl,aE,fun H1 hR1 x1=>⟨rfl,?_⟩⟩
 intro f d1 n1 m1 e1
 refine⟨f,d1,rfl,aE,fun H2 l hF2 hl2 x2=>⟨rfl,?_⟩⟩
 refine⟨_,rfl,?_⟩
 intro qs d2 n2 m2 e2
 have s1:bg H H1:=bg.made n0 m0 fun b o e hb=>x1 b o e (by simpa using hb)
 have s2:bg H1 H2:=bg.made n1 m1 fun b o e hb=>x2 b o e (by simpa using hb)
 have sq:bg H2 (upd (upd H2 d2 (.own qs)) qs (.ins t.bH d2 [])):=(bg.new m2).trans (bg.new (by rw[aN (br e2)];exact n2))
 refine⟨qs,d2,f,l,rfl,aE,hF2.same sq,fun H3 le kd A3 hle hkd x3=>⟨rfl,?_⟩⟩
 have s3:bg H2 H3:=bg.made n2 m2 fun b o e hb=>x3 b o e (by simpa using hb)
 refine⟨aT _,fun g hg=>?_⟩
 have s4:bg H3 (upd H3 g (.lst [])):=bg.new hg
 have gl:g≠l:=by
  obtain⟨vs,hv,_⟩:=A3.fm.book
  exact br (bf hv hg)
 have D3:KC K t no (upd H3 g (.lst [])) r f qs a ns 0 l le kd []:=by
  obtain⟨dx,h⟩:=hR1
  exact⟨⟨dx,s4 _ _ (s3 _ _ (s2 _ _ h))⟩,hA.keep (la.of_same (((s1.trans s2).trans s3).trans s4)),A3.same s4,id⟩
 refine⟨fun m σ H'=>∃ S v p l le kd b s cs,∃ done:List Int,σ=[some (.ref a),some (.ref r),some (.ref f),some (.ref qs),some (.ref g),v]∧KC K t S H' r f qs a ns p l le kd b∧H' g=some (.lst (done.map V.int))∧g≠l∧¬ S g∧KpTop.Chain (ns.drop p) cs∧
  xX ns=done++KpTop.flat s cs∧(s=some b∨∃ cs',cs=.begin_::cs')∧m=ns.length - p∧done.length+601 * cs.length≤240400,⟨_,no,none,0,l,le,kd,[],none,_,[],rfl,D3,aE,gl,id,hC,Wc,.inr ⟨_,rfl⟩,rfl,?_⟩,?_⟩
 ·rw[aM,cR]
  omega
 rintro m σ H' ⟨S,v,p,l,le,kd,b,s,cs,done,rfl,D,hdn,gl,hSg,hC,Wc,hs,rfl,hsz⟩
 obtain⟨dr,hrd⟩:=D.rd
 refine⟨_,rfl,r,dr,_,rfl,hrd,rfl,r,a,p,ns,rfl,D.rd,D.ar,_,rfl,qx (fun h=>?_) (fun h=>?_)⟩
 ·have h:p < ns.length:=of_decide_eq_true h
  refine⟨_,fun σ' H' h=>h,?_⟩
  obtain⟨c,tl,cs',rfl,hO,hC'⟩:=Chain.inv hC (fun e=>by
   have:=congrArg ja e
   rw[dy,cR] at this
   omega)
  have hs2:c=.begin_∨s=some b:=by
   rcases hs with h | ⟨cs2,e⟩
   ·exact .inr h
   ·exact .inl (List.cons.inj e).1
  refine⟨_,rfl,_,rfl,_,rfl,S,r,f,qs,a,ns,p,l,le,kd,b,s,c,tl,rfl,D,hl,hO,hs2,fun H5 o S' l' le' kd' b' p' ho hno D5 hl' sub hp' hst x5=>?_⟩
  have hlen:(gw s c).length≤600:=by
   unfold gw bT
   rw[aM,ae]
   have:=KpFix.PX s c
   omega
  obtain⟨df,hfo⟩:=D.q.fm.obj
  obtain⟨dq,hqo⟩:=D.q.obj
  obtain⟨kvs,hko⟩:=D.q.ls.kdT
  have gr:g≠r:=cu hdn hrd (by intro z;cases z)
  have gf:g≠f:=cu hdn hfo (by intro z;cases z)
  have gq:g≠qs:=cu hdn hqo (by intro z;cases z)
  have gk:g≠kd:=cu hdn hko (by intro z;cases z)
  have hg5:H5 g=some (.lst (done.map V.int)):=x5 g _ hdn (by simp[gr,gf,gl,gq,gk])
  have go:o≠g:=br (bf hdn hno)
  have gl':g≠l':=by
   rcases hl' with rfl | h
   ·exact gl
   ·exact bf hdn h
  have Yi:¬ S' g:=fun z=>(sub g z).elim hSg fun e=>by rw[hdn] at e;cases e
  rw[aM] at hsz
  refine⟨_,rfl,.inl ⟨rfl,_,SqL.of hg5⟩,_,rfl,o,_,rfl,.inl (SqL.of ho),g,_,_,rfl,rfl,hg5,?_,?_⟩
  ·rw[ae]
   exact kP (show done.length≤240400 by omega) (by decide)
  have hg6:upd H5 g (.lst (done.map V.int++[.int ((gw s c).map V.int).length])) g=some (.lst (done.map V.int++[.int ((gw s c).map V.int).length])):=aE
  have ho6:upd H5 g (.lst (done.map V.int++[.int ((gw s c).map V.int).length])) o=some (.lst ((gw s c).map V.int)):=by rw[aN go];exact ho
  refine⟨_,rfl,.inl ⟨rfl,_,SqL.of hg6⟩,_,rfl,g,o,_,_,rfl,rfl,hg6,ho6,?_,?_⟩
  ·rw[au,ae,ae,bD]
   exact jd (kP (show done.length+1+(gw s c).length≤241401 by omega) (by decide))
  refine⟨ns.length - p',?_,S',some (.ref o),p',l',le',kd',b',(cA s c).1,cs',done++((gw s c).length:Int)::gw s c,rfl,(D5.off hg5 Yi gl').off hg6 Yi gl',?_,gl',Yi,?_,?_,.inl hst,rfl,?_⟩
  ·have h1:=One.short hO
   rw[← hp',dy,dy] at h1
   omega
  ·rw[aE,aJ,aU,ae,bK]
   rfl
  ·rw[hp']
   exact hC'
  ·rw[Wc,SE,bK]
   rfl
  ·rw[au,aM]
   omega
 ·have h:¬ p < ns.length:=fun z=>h (decide_eq_true z)
  refine⟨_,rfl,k H' g ?_⟩
  have e:ns.drop p=[]:=gZ (by omega)
  have e:=Chain.empty hC e
  subst e
  rw[Wc,hdn]
  show _=some (HO.lst ((done++[]).map V.int))
  rw[cq]
end
end U
namespace U
open PySem PySem.Spec PyProof.Rows L2
theorem Yw {K:ai}{H:Hp}{a:Addr}{xs:List V} (hO:LJ H) (h:SqL K H a xs):y9 K H a xs:=by
 rcases h with (h | h) | h
 ·rcases hO a with e | ⟨o,u,e⟩
  ·rw[e] at h;cases h
  ·rw[e] at h;cases h
 ·exact .inl h
 ·exact .inr fun H'=>.inr h
end U
namespace PySem.W.Fast
def tw17415768474638335211:=0
def tw10518592557646631495:=0
def tw7158280975181921937:=0
def tw14176893791834050515:=0
def tw8036914050774818215:=0
def tw16929372078641180276:=0
def tw7721619781286936901:=0
def tw12295536753389736661:=0
def tw4607869659775131417:=0
def tw1155303535246770186:=0
def tw17847262585740264033:=0
def tw1282293266713560957:=0
def tw4604975808548534703:=0
def tw17185168941207706840:=0
def tw15628914191582052561:=0
def tw5479320143629387368:=0
def tw5497834686679256753:=0
def tw9100331010595145272:=0
def tw15036792319724138867:=0
def tw17926562550705156544:=0
def tw13996668385317225733:=0
def tw8724021895453645529:=0
def tw580658144755358995:=0
def tw1701298157447187720:=0
def tw2359272983704590339:=0
def tw8639102609171379971:=0
def tw3288994602022638586:=0
def tw17973546130413231762:=0
def tw12033886703858138089:=0
def tw15299763970328950537:=0
def tw3440150687516188454:=0
def tw11805739431256648518:=0
def tw12472755592705183878:=0
def tw13930264655688779251:=0
def tw15987344548242160460:=0
def tw9247849423441305424:=0
def tw14938335021185229086:=0
def tw18037281106509884687:=0
def tw10511442690272639536:=0
def tw18430525496646051717:=0
def tw8817922076071422098:=0
def tw6158145297116265755:=0
def tw2727728262599052770:=0
def tw14919144629091888632:=0
def tw15602762926974663456:=0
def tw13504577304330456607:=0
def tw616743582567156552:=0
def tw16473387570365423169:=0
def tw12327641763294753547:=0
def tw9270682539576541842:=0
def tw5426507148466892370:=0
def tw7280643088070940070:=0
def tw2433649698838569797:=0
def tw7411748899479533084:=0
def tw18443688320367817210:=0
def tw91806687020529996:=0
def tw14990941107976982403:=0
def tw14127954798181461996:=0
def tw10811933232077304314:=0
def tw12191669855080859306:=0
def tw513276539180797116:=0
def tw17191921207915420336:=0
def tw9596276737341213900:=0
def tw10643913913669320565:=0
def tw12267738812340651895:=0
def tw12028380251435274693:=0
def tw10189206341117395539:=0
def tw7577937050307915770:=0
def tw13118560371162021988:=0
def tw13337524289967891623:=0
def tw16315102520984151523:=0
def tw1532362656713385974:=0
def tw11266762052179415612:=0
def tw9062160024435447175:=0
def tw13914263638291305873:=0
def tw6216901054441093393:=0
def tw12975027553260632816:=0
def tw7985981656045866891:=0
def tw10079507532088399809:=0
def tw5878765758461305782:=0
def tw17627053268362919500:=0
def tw14129481365710250027:=0
def tw11573819621378858671:=0
def tw2734781517812609837:=0
def tw943688296941983274:=0
def tw1822731793645711476:=0
def tw3153889830334958033:=0
def tw15404792229815653479:=0
def tw15328003027366543469:=0
def tw10335911182239565630:=0
def tw17153369567040206450:=0
def tw4571050376280346006:=0
def tw15296157037110604630:=0
def tw4254756775636486194:=0
def tw15081618133048014014:=0
def tw13755922465789484421:=0
def tw8343028508430691621:=0
def tw13881330595457373002:=0
def tw2481234110813638326:=0
def tw14812103982910645049:=0
def tw4479938391093418030:=0
def tw13916820883226606705:=0
def tw4537206767591794408:=0
def tw3828326146571999997:=0
def tw5368773133314044846:=0
def tw7721294159573766080:=0
def tw6549799980059529694:=0
def tw11690119543324762563:=0
def tw16184642364294998364:=0
def tw10086174547264497102:=0
def tw14270553635828348718:=0
def tw8984013745541981505:=0
def tw15430539375411707695:=0
def tw12209183303567477774:=0
def tw12224080545856860028:=0
def tw16394366090830384467:=0
def tw15608872905948497681:=0
def tw6136092292350029970:=0
def tw5905364545629034139:=0
def tw16103832338442894170:=0
def tw3523463739013867531:=0
def tw6087326061964980246:=0
def tw2833537712919207719:=0
def tw14421230891909784546:=0
def tw9534006495917488214:=0
def tw10324027452715925885:=0
def tw5475406534619402092:=0
def tw17709357823691690725:=0
def tw6704119725196055447:=0
def tw14510315813791324364:=0
def tw4638911212949025242:=0
def tw8069617450977878437:=0
def tw6744725462572075669:=0
def tw7632945123392932103:=0
def tw378769087960097275:=0
def tw15444846475753718837:=0
def tw16926846170544037838:=0
def tw9222620811605373951:=0
def tw10696517121390919386:=0
def tw16493269088591322474:=0
def tw4584695425170194568:=0
def tw9182571295276668429:=0
def tw513836917674203070:=0
def tw18075690105525399060:=0
def tw17312381284686338191:=0
def tw16457713054301305142:=0
def tw2594109635197183331:=0
def tw15472228393697216331:=0
def tw11451448687157501103:=0
def tw6323032546604117365:=0
def tw4921647420042247954:=0
def tw18032630752917710671:=0
def tw10884542545975767715:=0
def tw13193018360840819083:=0
def tw952507793824767454:=0
def tw13076101007896274206:=0
def tw2961049411546325802:=0
def tw14515520325981773069:=0
def tw5420026238586493020:=0
def tw5565289589165490179:=0
def tw11379289007565327645:=0
def tw7341885896889059493:=0
def tw895182382544749431:=0
def tw15288071766679555189:=0
def tw16371587539094709317:=0
def tw2906962785126966782:=0
def tw12585309730682162399:=0
def tw12953410899366954620:=0
def tw479771921250377898:=0
def tw5537653602208549341:=0
def tw17651536954051813414:=0
def tw18161804252367933857:=0
def tw14659656395486102944:=0
def tw2295206903775634501:=0
def tw14450289085581204938:=0
def tw3975111904087552374:=0
def tw10101278926572882784:=0
def tw781732504842060320:=0
def tw11512813600418497232:=0
def tw8542827455579641210:=0
def tw8171145785813959380:=0
def tw14371952170942137218:=0
def tw7777486262098824980:=0
def tw12869495622443822011:=0
def tw1025030197847325081:=0
def tw5313229019609849506:=0
def tw9770927264432340096:=0
def tw3668751949535942022:=0
def tw15258853304666749699:=0
def tw17957041641817616151:=0
def tw13972264457909519644:=0
def tw12212717618621134855:=0
def tw10340849766760896152:=0
def tw18088002476660107301:=0
def tw7742373025922626807:=0
def tw17347459721710422011:=0
def tw2716956765877560718:=0
def tw7887816412656348985:=0
def tw13583194347318541978:=0
def tw15845208188170712462:=0
def tw7654524770702312864:=0
def tw17951101214906657562:=0
def tw14202162060851283253:=0
def tw1675953170250052132:=0
def tw12203514039142486304:=0
def tw3137642606349755726:=0
def tw16494200804126195019:=0
def tw60508976844127107:=0
def tw8614058291114079732:=0
def tw11433654748202203544:=0
def tw8593623799784471789:=0
def tw3281329283162887840:=0
def tw16633912249227575336:=0
def tw5993060484775684938:=0
def tw6294225875900761694:=0
def tw9044351910954256378:=0
def tw8384260827903577449:=0
def tw13474408899700210971:=0
def tw12220219820629702706:=0
def tw11543912198882484323:=0
def tw240239956245614542:=0
def tw1277143196088241705:=0
def tw7618709071737970872:=0
def tw7111403535181216439:=0
def tw2398794517758225470:=0
def tw15526687729477753483:=0
def tw4079495274198912226:=0
def tw15388672965418456427:=0
def tw10850264605324962612:=0
def tw8303552877911856187:=0
def tw4999904897226726202:=0
def tw256521747634082244:=0
def tw12993907940272493435:=0
def tw11992217089907194224:=0
def tw6228765552793161530:=0
def tw16352021880310271375:=0
def tw9983303308935485066:=0
def tw1905173013329850946:=0
def tw9862646695663280430:=0
def tw6536386913489689234:=0
def tw6892456240306233082:=0
def tw11877247664846882611:=0
def tw943831920426508524:=0
def tw4561639772259706478:=0
def tw12004988808366239806:=0
def tw9723116623437119848:=0
def tw7015417353078689969:=0
def tw17072333152908238115:=0
def tw380058415582049897:=0
def tw10582445033096448885:=0
def tw1235022633868480389:=0
def tw12276093797294363604:=0
def tw7920612914503897954:=0
def tw10932823838400808032:=0
def tw15145601166020396457:=0
def tw17546025088530611260:=0
def tw9049026805857750122:=0
def tw12489182741608801338:=0
def tw17433570592484148896:=0
def tw5166971776396302206:=0
def tw3687749319482474280:=0
def tw10678555579299521290:=0
def tw10657953719812446090:=0
def tw3893804537810082145:=0
def tw11385626903014450731:=0
def tw5443276076090529841:=0
def tw2813221232496135861:=0
def tw15369737332690334901:=0
def tw6752217704036520507:=0
def tw13225004333923934098:=0
def tw2701054445183385367:=0
def tw18159891453594640797:=0
def tw2317229350927481245:=0
def tw8595733585921682297:=0
def tw15962636938237659096:=0
def tw14947856964326817515:=0
def tw3239224997436398331:=0
def tw15492765108230620539:=0
def tw5471495818317327357:=0
def tw16447798339522948841:=0
def tw14325484356355315380:=0
def tw15239158766571775822:=0
def tw6084008444690621626:=0
def tw8888641901714751282:=0
def tw7585874921560747086:=0
def tw5077800832993424168:=0
def tw13878549094481766805:=0
def tw12410250564801922795:=0
def tw5351646718979898691:=0
def tw5552680304777552323:=0
def tw390387887806010246:=0
def tw10447338029961653339:=0
def tw5235130257896808516:=0
def tw13941742293077618848:=0
def tw12341084801315107571:=0
def tw3352735634975604593:=0
def tw2047792629886222282:=0
def tw14215995283766030211:=0
def tw2302825456143864891:=0
def tw14465206336440049969:=0
def tw16194321814767232781:=0
def tw5175689981187233412:=0
def tw10130326627557289457:=0
def tw5814036042307207030:=0
def tw7856924393822384456:=0
def tw17794026269638535365:=0
def tw11210254630965734177:=0
def tw3369606937404279107:=0
def tw12032447548359859436:=0
def tw14944952830771578133:=0
def tw16611304029060841742:=0
def tw11150030691944638104:=0
def tw11558427633629019752:=0
def tw81894423007275829:=0
def tw2036507551867143880:=0
def tw17080234215258758483:=0
def tw13592766260182644454:=0
def tw12430171553018559906:=0
def tw17552324794892713827:=0
def tw11908576371878892698:=0
def tw12834097941640384018:=0
def tw10699083051554591395:=0
def tw8067425457393141837:=0
def tw3024904089007491822:=0
def tw16723474752782127040:=0
def tw14905226164194032779:=0
def tw10297252519218078842:=0
def tw2709013173829369077:=0
def tw16872405107294936991:=0
def tw15380839004109111559:=0
def tw10123386155073293784:=0
def tw10590917047072444681:=0
def tw18362825838287061165:=0
def tw4346547607663696892:=0
def tw3518253388556853372:=0
def tw18365682457687385362:=0
def tw17512537251463012107:=0
def tw14387575188290070706:=0
def tw13417098597578674137:=0
def tw10311354110668729244:=0
def tw9718713289188645942:=0
def tw3431155563638383260:=0
def tw11867252251072386976:=0
def tw17374528728597720770:=0
def tw811756341607417264:=0
def tw5183529268015259458:=0
def tw4919073659121590085:=0
def tw4265305341785411003:=0
def tw16180995387874007756:=0
def tw9471882914138152180:=0
def tw1975698959705448366:=0
def tw8507844929923808112:=0
def tw5169865228471821952:=0
def tw14433715181759984145:=0
def tw9923744502801066817:=0
def tw8276430857530083899:=0
def tw5141684431276940273:=0
def tw2819479891916680262:=0
def tw9812638912415807814:=0
def tw2993505690138913561:=0
def tw2834002925409275562:=0
def tw18097116242978398580:=0
def tw13169568261347493222:=0
def tw12777089704078896707:=0
def tw1250404812819733758:=0
def tw10189439530629108951:=0
def tw5311601146247617525:=0
def tw4979327803509585995:=0
def tw2635292425172725615:=0
def tw17986267774938770200:=0
def tw15229025737871138167:=0
def tw12078895470039518031:=0
def tw7923972118135927051:=0
def tw8991061073009296898:=0
def tw6260937205515278575:=0
def tw4175651533822427710:=0
def tw5060938851456141854:=0
def tw6371620722568403502:=0
def tw2172471616457006367:=0
def tw15824822593567726760:=0
def tw4613749992872313586:=0
def tw3376222373347399432:=0
def tw15581606276528996414:=0
def tw15122864483076504214:=0
def tw13864134460217870305:=0
def tw13509623616459860864:=0
def tw9728450261034745228:=0
def tw9675382308982303152:=0
def tw7659128258102583092:=0
def tw5530661028112630088:=0
def tw5073740476735337766:=0
def tw3067773924680645814:=0
def tw14406906452923503166:=0
def tw12510816401099262592:=0
def tw8854005060878233892:=0
def tw8367219352096645708:=0
def tw725658055375289403:=0
def tw5755720194891116691:=0
def tw3304832816380022760:=0
def tw18167481138299008083:=0
def tw15186553410395717835:=0
def tw13104661532488843525:=0
def tw1703843532478559332:=0
def tw16021979341692688108:=0
def tw16828371298985552036:=0
def tw11187425599953547383:=0
def tw9480104127255673812:=0
def tw7928523837232172844:=0
def tw7386753258438347631:=0
def tw6430414076286014147:=0
def tw5130200703010072931:=0
def tw16667139225903895562:=0
def tw13491873895404007511:=0
def tw13449247941352958097:=0
def tw11525194985207001236:=0
def tw9985399540001767376:=0
def tw992818748769035578:=0
def tw9915329636591086629:=0
def tw9795974712722713565:=0
def tw9746437619585377303:=0
end PySem.W.Fast
open PySem PySem.W PyProof.Rows
local macro_rules | `(tactic| walk_at "fg") => `(tactic| (refine' ⟨?a, _, L2.fun_mk ?l ?e ?k⟩; (case a => k_is); (case l => k_is); (case e => k_is); (case k => k_is)))
local macro_rules | `(tactic| walk_at "fm") => `(tactic| (refine' ⟨⟨?a, ?i⟩, _, L2.fun_mk ?l ?e ?k⟩; (case a => k_is); (case i => k_is); (case l => k_is); (case e => k_is); (case k => k_is)))
local macro_rules | `(tactic| walk_at "fc") => `(tactic| (refine' ⟨?a, ⟨?p, ?h, ?o, ?s⟩, ?m, ?k⟩; (case a => k_is); (case p => k_is); (case h => k_is); (case o => k_is); (case s => k_is); (case m => k_is); (case k => k_is)))
set_option maxRecDepth 100000 in
set_option maxHeartbeats 0 in
theorem PySem.Challenge.cw_understood_s01_answers_holds : PySem.Challenge.rw_understood_s01_answers.Holds := by
 w_on;k_headS;(case hw=>exact⟨[.list [.int 0]],by decide +kernel,by decide +kernel⟩)
 k_fillS
 refine L2.PK (r:=PySem.Challenge.rw_understood_s01_answers) (k:=11) (CX:=L2.CX0) (ps:=["calls"]) (sp:=U.Hh) (by decide +kernel) rfl rfl ⟨rfl,by decide,by decide⟩ (fun w h Y=>PySem.W.kIn_of Y) ?F ?S (fun _ _ _ _ z=>z)
 case F=>
  intro w mg fa h Y KX G hmg
  have T:∃ t:U.Adr,U.Txt (L2.KOf KX) mg t:=by
   dsimp only[L2.KOf]
   refine' U.Xb KX G ?q0 ?q1 ?q2 ?q3 ?q4 ?q5 ?q6 ?q7 ?q8 ?q9 ?q10 ?q11 ?q12 ?q13 ?q14 ?q15 ?q16 ?q17 ?q18 ?q19 ?q20 ?q21 ?q22 ?q23 ?q24 ?q25 ?q26 ?q27 ?q28 ?q29 ?q30 ?q31 ?q32 ?q33 ?q34 ?q35 ?q36 ?q37 ?q38 ?q39 ?q40 ?q41 ?q42 ?q43 ?q44 ?q45 ?q46 ?q47 ?q48 ?q49 ?q50 ?q51 ?q52 ?q53 ?q54 ?q55 ?q56 ?q57 ?q58 ?q59 ?q60 ?q61 ?q62 ?q63 ?q64 ?q65 ?q66 ?q67 ?q68 ?q69 ?q70 ?q71 ?q72 ?q73 ?q74 ?q75 ?q76 ?q77 ?q78 ?q79 ?q80 ?q81 ?q82 ?q83 ?q84 ?q85 ?q86 ?q87 ?q88 ?q89 ?q90 ?q91 ?q92 ?q93 ?q94 ?q95 ?q96 ?q97 ?q98 ?q99 ?abZ ?abY ?abX ?abW ?abV ?abU ?abT ?abS ?abR ?abQ ?abP ?abO ?abN ?abM ?abL ?abK ?abJ ?abI ?abH ?abG ?abF ?abE ?abD ?abC ?abB ?abA ?abz ?aby ?abx ?abw ?abv ?abu ?abt ?abr ?abq ?abp ?abo ?abn ?abm ?abl ?abk ?abj ?abi ?abh ?abg ?abf ?abe ?abd ?abc ?abb ?aba ?aa9 ?aa8 ?aa7 ?aa6 ?aa5 ?aa4 ?aa3 ?aa2 ?aa1 ?aa0 ?aaZ ?aaY ?aaX ?aaW
   (case q0=>walk_at "fc")
   (case q1=>k_is)
   (case q2=>walk_at "fc")
   (case q3=>k_is)
   (case q4=>k_is)
   (case q5=>k_is)
   (case q6=>k_is)
   (case q7=>k_is)
   (case q8=>walk_at "fc")
   (case q9=>k_is)
   (case q10=>k_is)
   (case q11=>k_is)
   (case q12=>k_is)
   (case q13=>k_is)
   (case q14=>k_is)
   (case q15=>walk_at "fc")
   (case q16=>k_is)
   (case q17=>k_is)
   (case q18=>walk_at "fc")
   (case q19=>k_is)
   (case q20=>k_is)
   (case q21=>walk_at "fc")
   (case q22=>k_is)
   (case q23=>k_is)
   (case q24=>walk_at "fg")
   (case q25=>walk_at "fg")
   (case q26=>walk_at "fg")
   (case q27=>walk_at "fg")
   (case q28=>walk_at "fg")
   (case q29=>walk_at "fg")
   (case q30=>walk_at "fg")
   (case q31=>walk_at "fg")
   (case q32=>walk_at "fg")
   (case q33=>walk_at "fg")
   (case q34=>walk_at "fg")
   (case q35=>walk_at "fg")
   (case q36=>walk_at "fg")
   (case q37=>walk_at "fg")
   (case q38=>walk_at "fg")
   (case q39=>walk_at "fg")
   (case q40=>walk_at "fg")
   (case q41=>walk_at "fg")
   (case q42=>walk_at "fg")
   (case q43=>walk_at "fg")
   (case q44=>walk_at "fg")
   (case q45=>walk_at "fg")
   (case q46=>walk_at "fg")
   (case q47=>walk_at "fg")
   (case q48=>walk_at "fg")
   (case q49=>walk_at "fg")
   (case q50=>walk_at "fg")
   (case q51=>walk_at "fg")
   (case q52=>walk_at "fg")
   (case q53=>walk_at "fg")
   (case q54=>walk_at "fg")
   (case q55=>walk_at "fg")
   (case q56=>walk_at "fg")
   (case q57=>walk_at "fg")
   (case q58=>walk_at "fg")
   (case q59=>walk_at "fg")
   (case q60=>walk_at "fm")
   (case q61=>walk_at "fm")
   (case q62=>walk_at "fm")
   (case q63=>walk_at "fm")
   (case q64=>walk_at "fm")
   (case q65=>walk_at "fm")
   (case q66=>walk_at "fm")
   (case q67=>walk_at "fm")
   (case q68=>walk_at "fm")
   (case q69=>walk_at "fm")
   (case q70=>walk_at "fm")
   (case q71=>walk_at "fm")
   (case q72=>walk_at "fm")
   (case q73=>walk_at "fm")
   (case q74=>walk_at "fm")
   (case q75=>walk_at "fm")
   (case q76=>walk_at "fm")
   (case q77=>walk_at "fm")
   (case q78=>walk_at "fm")
   (case q79=>walk_at "fm")
   (case q80=>walk_at "fm")
   (case q81=>walk_at "fm")
   (case q82=>walk_at "fm")
   (case q83=>walk_at "fm")
   (case q84=>walk_at "fm")
   (case q85=>walk_at "fm")
   (case q86=>walk_at "fm")
   (case q87=>walk_at "fm")
   (case q88=>walk_at "fm")
   (case q89=>walk_at "fm")
   (case q90=>walk_at "fm")
   (case q91=>walk_at "fm")
   (case q92=>walk_at "fm")
   (case q93=>walk_at "fm")
   (case q94=>walk_at "fm")
   (case q95=>walk_at "fm")
   (case q96=>walk_at "fm")
   (case q97=>walk_at "fm")
   (case q98=>walk_at "fm")
   (case q99=>k_is)
   (case abZ=>exact⟨_,rfl⟩)
   (case abY=>k_is)
   (case abX=>exact⟨_,rfl⟩)
   (case abW=>k_is)
   (case abV=>exact⟨_,rfl⟩)
   (case abU=>k_is)
   (case abT=>exact⟨_,rfl⟩)
   (case abS=>k_is)
   (case abR=>exact⟨_,rfl⟩)
   (case abQ=>k_is)
   (case abP=>exact⟨_,rfl⟩)
   (case abO=>k_is)
   (case abN=>exact⟨_,rfl⟩)
   (case abM=>k_is)
   (case abL=>exact⟨_,rfl⟩)
   (case abK=>k_is)
   (case abJ=>exact⟨_,rfl⟩)
   (case abI=>k_is)
   (case abH=>exact⟨_,rfl⟩)
   (case abG=>k_is)
   (case abF=>exact⟨_,rfl⟩)
   (case abE=>k_is)
   (case abD=>exact⟨_,rfl⟩)
   (case abC=>k_is)
   (case abB=>exact⟨_,rfl⟩)
   (case abA=>k_is)
   (case abz=>exact⟨_,rfl⟩)
   (case aby=>k_is)
   (case abx=>exact⟨_,rfl⟩)
   (case abw=>k_is)
   (case abv=>exact⟨_,rfl⟩)
   (case abu=>k_is)
   (case abt=>exact⟨_,rfl⟩)
   (case abr=>k_is)
   (case abq=>exact⟨_,rfl⟩)
   (case abp=>k_is)
   (case abo=>exact⟨_,rfl⟩)
   (case abn=>k_is)
   (case abm=>exact⟨_,rfl⟩)
   (case abl=>k_is)
   (case abk=>exact⟨_,rfl⟩)
   (case abj=>k_is)
   (case abi=>exact⟨_,rfl⟩)
   (case abh=>k_is)
   (case abg=>exact⟨_,rfl⟩)
   (case abf=>k_is)
   (case abe=>exact⟨_,rfl⟩)
   (case abd=>k_is)
   (case abc=>exact⟨_,rfl⟩)
   (case abb=>k_is)
   (case aba=>exact⟨_,rfl⟩)
   (case aa9=>k_is)
   (case aa8=>exact⟨_,rfl⟩)
   (case aa7=>k_is)
   (case aa6=>exact⟨_,rfl⟩)
   (case aa5=>k_is)
   (case aa4=>exact⟨_,rfl⟩)
   (case aa3=>k_is)
   (case aa2=>exact⟨_,rfl⟩)
   (case aa1=>k_is)
   (case aa0=>k_is)
   (case aaZ=>k_is)
   (case aaY=>k_is)
   (case aaX=>k_is)
   (case aaW=>k_is)
  have TE:∃ C,U.TxE (L2.KOf KX) mg C:=by
   dsimp only[L2.KOf]
   refine'⟨_,aD KX G ?Pn,?ND⟩
   (case Pn=>k_is)
   (case ND=>
     show qK _ _ [.type "ValueError",.type "Exception",.type "BaseException",.type "object"] "ValueError.__new__"=true
     k_exc)
  obtain⟨t,T⟩:=T
  obtain⟨C,TE⟩:=TE
  have e:=hmg.symm.trans T.SY
  cases e
  obtain⟨oc,od,kV,doc,pm,an,cdv,ct,osl,ed,lk,hcd⟩:=T.vT.ex
  refine⟨t.sC,fun s us hu=>?_,fun base kb nb=>U.Qh T TE⟩
  rw[ed]
  exact match us,hu with | [_],_=>.of_eq rfl
 case S=>
  intro K H xs a hO hwi Yf hx
  cases hx with
  | cons h1 h2=>
    cases h2
    cases h1 with
    | lst hs ha=>
      have e:=L2.Rl a.1 _ ha
      subst e
      have q:((Codec.inLen 0 30000 a.1 && a.1.all (Codec.inInt 0 4294967295)) && true)=true:=hwi
      rw[a5,a5] at q
      exact⟨_,a.1,rfl,U.Yw hO hs,(Codec.inNat_iff.mp q.1.1).2,Yf,fun H' p hp=>.lst (L2.SqL.of hp) (L2.Ru _)⟩
