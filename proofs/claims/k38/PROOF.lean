import PyProof.Rows.All
import Wide.All
import OpenK.AllK
import Wide.FinOn
import Lean
import PyProof.EqAt
import PyProof.EqKinds
import PyProof.TupleCall
import KE.KNestM
import PyProof.IsiH_list
import PyProof.RaisesAny
import KE.KDictOf
import PyProof.CollectWalk
import PyProof.CompFree
import KE.KDictList
import PyProof.NeKinds
import PyProof.ConsumeWalk
import PyProof.StrBlockI
import PyProof.EnumFor
import PyProof.TupleIter
import PyProof.EnumMake
import KE.KLam
import PyProof.DictUpdate
import PyProof.SeqI3
import PyProof.DictWalks
import PyProof.ConsumeS
import PyProof.Rows.CallKwBuiltin
import KE.KDictLaws
import PyProof.AutoListH
import PyProof.ZipIter
import PyProof.ListNew
import KE.KRevSl
import PyProof.StrOps
import PyProof.StrOps2
import KE.KSortKey
import PyProof.Rows.SetFrom
import PyProof.MinMaxWalk
import KE.KDictSum
import PyProof.DictItemsLoops
import KE.KPairComp
import PySem.Challenge.RW_wright_k38_places_closed
inductive Qe2 {t0 t1 : Type} (P : t0 → t1 → Prop) : Prop
  | mk (x0 : t0) (x1 : t1) (h : P x0 x1) : Qe2 P
inductive Qe3 {t0 t1 t2 : Type} (P : t0 → t1 → t2 → Prop) : Prop
  | mk (x0 : t0) (x1 : t1) (x2 : t2) (h : P x0 x1 x2) : Qe3 P
inductive Qe4 {t0 t1 t2 t3 : Type} (P : t0 → t1 → t2 → t3 → Prop) : Prop
  | mk (x0 : t0) (x1 : t1) (x2 : t2) (x3 : t3) (h : P x0 x1 x2 x3) : Qe4 P
inductive Qe5 {t0 t1 t2 t3 t4 : Type} (P : t0 → t1 → t2 → t3 → t4 → Prop) : Prop
  | mk (x0 : t0) (x1 : t1) (x2 : t2) (x3 : t3) (x4 : t4) (h : P x0 x1 x2 x3 x4) : Qe5 P
inductive Qe6 {t0 t1 t2 t3 t4 t5 : Type} (P : t0 → t1 → t2 → t3 → t4 → t5 → Prop) : Prop
  | mk (x0 : t0) (x1 : t1) (x2 : t2) (x3 : t3) (x4 : t4) (x5 : t5) (h : P x0 x1 x2 x3 x4 x5) : Qe6 P
inductive Qe7 {t0 t1 t2 t3 t4 t5 t6 : Type} (P : t0 → t1 → t2 → t3 → t4 → t5 → t6 → Prop) : Prop
  | mk (x0 : t0) (x1 : t1) (x2 : t2) (x3 : t3) (x4 : t4) (x5 : t5) (x6 : t6) (h : P x0 x1 x2 x3 x4 x5 x6) : Qe7 P
inductive Qe8 {t0 t1 t2 t3 t4 t5 t6 t7 : Type} (P : t0 → t1 → t2 → t3 → t4 → t5 → t6 → t7 → Prop) : Prop
  | mk (x0 : t0) (x1 : t1) (x2 : t2) (x3 : t3) (x4 : t4) (x5 : t5) (x6 : t6) (x7 : t7) (h : P x0 x1 x2 x3 x4 x5 x6 x7) : Qe8 P
inductive Qe9 {t0 t1 t2 t3 t4 t5 t6 t7 t8 : Type} (P : t0 → t1 → t2 → t3 → t4 → t5 → t6 → t7 → t8 → Prop) : Prop
  | mk (x0 : t0) (x1 : t1) (x2 : t2) (x3 : t3) (x4 : t4) (x5 : t5) (x6 : t6) (x7 : t7) (x8 : t8) (h : P x0 x1 x2 x3 x4 x5 x6 x7 x8) : Qe9 P
inductive Qa3 (p0 p1 p2 : Prop) : Prop
  | mk (h0 : p0) (h1 : p1) (h2 : p2) : Qa3 p0 p1 p2
inductive Qa4 (p0 p1 p2 p3 : Prop) : Prop
  | mk (h0 : p0) (h1 : p1) (h2 : p2) (h3 : p3) : Qa4 p0 p1 p2 p3
inductive Qa5 (p0 p1 p2 p3 p4 : Prop) : Prop
  | mk (h0 : p0) (h1 : p1) (h2 : p2) (h3 : p3) (h4 : p4) : Qa5 p0 p1 p2 p3 p4
inductive Qa6 (p0 p1 p2 p3 p4 p5 : Prop) : Prop
  | mk (h0 : p0) (h1 : p1) (h2 : p2) (h3 : p3) (h4 : p4) (h5 : p5) : Qa6 p0 p1 p2 p3 p4 p5
inductive Qa7 (p0 p1 p2 p3 p4 p5 p6 : Prop) : Prop
  | mk (h0 : p0) (h1 : p1) (h2 : p2) (h3 : p3) (h4 : p4) (h5 : p5) (h6 : p6) : Qa7 p0 p1 p2 p3 p4 p5 p6
inductive Qa8 (p0 p1 p2 p3 p4 p5 p6 p7 : Prop) : Prop
  | mk (h0 : p0) (h1 : p1) (h2 : p2) (h3 : p3) (h4 : p4) (h5 : p5) (h6 : p6) (h7 : p7) : Qa8 p0 p1 p2 p3 p4 p5 p6 p7
inductive Qa9 (p0 p1 p2 p3 p4 p5 p6 p7 p8 : Prop) : Prop
  | mk (h0 : p0) (h1 : p1) (h2 : p2) (h3 : p3) (h4 : p4) (h5 : p5) (h6 : p6) (h7 : p7) (h8 : p8) : Qa9 p0 p1 p2 p3 p4 p5 p6 p7 p8
inductive Qa10 (p0 p1 p2 p3 p4 p5 p6 p7 p8 p9 : Prop) : Prop
  | mk (h0 : p0) (h1 : p1) (h2 : p2) (h3 : p3) (h4 : p4) (h5 : p5) (h6 : p6) (h7 : p7) (h8 : p8) (h9 : p9) : Qa10 p0 p1 p2 p3 p4 p5 p6 p7 p8 p9
inductive Qa11 (p0 p1 p2 p3 p4 p5 p6 p7 p8 p9 p10 : Prop) : Prop
  | mk (h0 : p0) (h1 : p1) (h2 : p2) (h3 : p3) (h4 : p4) (h5 : p5) (h6 : p6) (h7 : p7) (h8 : p8) (h9 : p9) (h10 : p10) : Qa11 p0 p1 p2 p3 p4 p5 p6 p7 p8 p9 p10
inductive Qa12 (p0 p1 p2 p3 p4 p5 p6 p7 p8 p9 p10 p11 : Prop) : Prop
  | mk (h0 : p0) (h1 : p1) (h2 : p2) (h3 : p3) (h4 : p4) (h5 : p5) (h6 : p6) (h7 : p7) (h8 : p8) (h9 : p9) (h10 : p10) (h11 : p11) : Qa12 p0 p1 p2 p3 p4 p5 p6 p7 p8 p9 p10 p11
open Lean in
def nyB (x : Syntax) : Array (Syntax × Option Syntax) := Id.run do
  let mut r := #[]
  let y := x[0]
  if y.isOfKind ``Lean.unbracketedExplicitBinders then
    let t := if y[1].getNumArgs = 0 then none else some y[1][1]
    for i in y[0].getArgs do r := r.push (i[0], t)
  else
    for z in y.getArgs do
      for i in z[1].getArgs do r := r.push (i[0], some z[3])
  return r
open Lean in
def nyA (n : Nat) (x : Syntax) : Array Syntax := match n with
  | 0 => #[x]
  | n + 1 => if x.isOfKind `«term_∧_» then #[x[0]] ++ nyA n x[2] else #[x]
open Lean in
local macro_rules
  | `(∃ $xs:explicitBinders, $b:term) => do
    let bs := nyB xs
    let cs := nyA 11 b
    if bs.size < 2 ∧ cs.size < 3 then Macro.throwUnsupported
    let mut r : TSyntax `term := b
    if cs.size > 2 then
      r := ⟨Syntax.mkApp (mkCIdent (.mkSimple s!"Qa{cs.size}")) (cs.map fun c => ⟨c⟩)⟩
    let k := (bs.size - 1) / 8 + 1
    for j in [0:k] do
      let g := bs.extract (8 * (k - 1 - j)) (8 * (k - j))
      for i in [0:g.size] do
        let (x, t) := g[g.size - 1 - i]!
        let nm : Ident := if x.isIdent then ⟨x⟩ else mkIdent `_x
        match t with
        | some t =>
          let ty : TSyntax `term := ⟨t⟩
          r ← `(fun ($nm : $ty) => $r)
        | none => r ← `(fun $nm:ident => $r)
      r := ⟨Syntax.mkApp (mkCIdent (if g.size = 1 then `Exists else .mkSimple s!"Qe{g.size}")) #[r]⟩
    return r
set_option Elab.async false
set_option linter.all false
set_option maxRecDepth 100000
set_option hygiene false
local macro_rules
|`(82)=>`((·.1))
|`(83)=>`(List ax)
|`(84)=>`((bo rfl))
|`(85)=>`(by simp)
|`(87)=>`(List (aN×V))
|`(88)=>`(Sum.inr z)
|`(132)=>`((.lst []))
|`(133)=>`(Inv X ag σ H s)
|`(135)=>`((by simp))
|`(137)=>`((λ_ _=>rfl))
|`(138)=>`(rs.map V.ref)
|`(139)=>`((Sum.inr z))
|`(145)=>`((model X.prog X.w))
|`(146)=>`((rs.map V.ref))
|`(148)=>`(zs.map V.str)
|`(149)=>`(.int (i:Int))
|`(150)=>`((model prog w))
|`(151)=>`(by rw [au];omega)
|`(152)=>`(iG rfl rfl rfl rfl nofun)
|`(157)=>`((λvs H Q E h=>?_))
|`(158)=>`(s.heap.get? b=some o)
|`(161)=>`((λd5 A outer s H vs Q E hr h=>?_))
|`(162)=>`(some (.dK kvs))
|`(163)=>`((.lst (ts.map V.ref)))
|`(176)=>`(bB (by rw [au];omega))
|`(177)=>`((λ_ _ _ _ _=>bD))
|`(179)=>`((upd H D (.lst [])))
|`(180)=>`(.ref s.heap.objs.size)
|`(182)=>`(λy H4=>H4 D=some (.lst ys)/\ys.length < sizeLine/\W (i+1) m' (ys++[y]) σ2 (upd H4 D (.lst (ys++[y]))))
|`(183)=>`(Nat->Nat->List V->St->Hp->Prop)
|`(184)=>`(cf (λc=>?_) (λc=>?_))
|`(195)=>`((λz=>decide (z∈aL.map (·.1))))
|`(198)=>`((∀ru∈aa,ru.2.length<=8))
|`(203)=>`(aj (λz=>by rw [z,hD] at hb;cases hb))
|`(215)=>`(λ_ _ _ _ _ _=>by exact z7 λ_=>rfl)
|`(217)=>`((tN X scope cl G2.objs.size s2 H2 (ts++js.map (·.2)) fp))
|`(218)=>`(starEach (e::es) X.env=(false,eval e X.env)::starEach es X.env)
|`(219)=>`((@ab _ _ _ _ _ (@cM _ _ _ _) (@ab _ _ _ _ _ (@cM _ _ _ _) (@ab _ _ _ _ _ (@cM _ _ _ _) (@ak _) rfl) rfl) rfl))
|`(220)=>`(λσ2 H2=>tif σ2 H2 λb H3=>if b=true then te σ2 H3 λy H4=>H4 D=some (.lst ys)/\ys.length < sizeLine/\Pv (i+1) (ys++[y]) σ2 (upd H4 D (.lst (ys++[y]))) else Pv (i+1) ys σ2 H3)
|`(221)=>`((λ_ _ _ _ _=>dF (n:=2) K rfl (aB (aq (i:=0) (show (["_law_head","_law_parts_here"]:z0t).Nodup by decide +kernel) rfl (bo rfl)) (aB (aq (i:=1) (show (["_law_head","_law_parts_here"]:z0t).Nodup by decide +kernel) rfl (bo rfl)) bH))))
local macro_rules | `(tactic| omega) => `(tactic| first | lia | omega (config := {}))
local macro_rules | `(∅) => `(by omega)
local macro_rules | `(nofun) => `(by first | decide +kernel | kernel_rfl)
abbrev z0a:=Array (Option PySem.Value)
abbrev z0b:=PySem.Value->PySem.Shared->Prop
abbrev z0c:=PySem.Str->Option PySem.Value
abbrev z0d:=List (PySem.Str×PySem.Value)
abbrev z0e:=List (PySem.Addr×PySem.Obj)
abbrev z0f:=List (PySem.Str×PySem.Addr)
abbrev z0g:=List (Nat×Nat)
abbrev z0h:=List (PySem.Str×Nat)
abbrev z0i:=List (PySem.Str×PySem.Str)
abbrev z0j:=List (Nat×PySem.Str)
abbrev z0k:=Option PySem.Value
abbrev z0l:=Array PySem.Value
abbrev z0m:=Option PySem.Addr
abbrev z0n:=List PySem.Value
abbrev z0o:=PySem.Heap->Prop
abbrev z0p:=Option Int
abbrev z0q:=List PySem.Addr
abbrev z0r:=List PySem.Expr
abbrev z0s:=Array Nat
abbrev z0t:=List PySem.Str
abbrev z0u:=List Int
def bo:=@Or.inl
abbrev bp:=PySem.W.Frag
def uo:0<=PySem.sizeLine:=by decide
def Fg:1<=PySem.sizeLine:=by decide
def qi:2<=PySem.sizeLine:=by decide
def Jt:3<=PySem.sizeLine:=by decide
def zl4:4<=PySem.sizeLine:=by decide
def Wf:5<=PySem.sizeLine:=by decide
def au.{u,v}:=@List.length_map.{u,v}
def bw.{u}:=@List.getElem?_eq_some_iff.{u}
def a8.{u}:=@List.length_append.{u}
def a0.{u,v}:=@List.getElem?_map.{u,v}
def aA:=@PySem.wpAny_bind
def b0.{u,v}:=@Option.map_eq_some_iff.{u,v}
def b9:=@PySem.Heap.get?_push_of_some
def bj.{u,v}:=@List.map_append.{u,v}
def cC.{u}:=@List.mem_of_getElem?.{u}
def df.{u}:=@List.getElem?_eq_getElem.{u}
def bA.{u}:=@List.mem_singleton.{u}
def aG:=@Nat.le_refl
def aH:=@PySem.wpAny_pure
def bc:=@PySem.Paired.length
def cS.{u}:=@List.mem_cons_of_mem.{u}
def bO.{u}:=@List.mem_append.{u}
def ar.{u}:=@if_neg.{u}
def bV:=@PySem.PassesOwn.never
def cR.{u}:=@List.mem_cons_self.{u}
def cQ:=@Bool.false_ne_true
def cH.{u}:=@List.size_toArray.{u}
def aw.{u}:=@if_pos.{u}
def cw.{u}:=@List.take_length.{u}
def cO.{u}:=@List.take_add_one.{u}
def dM.{u}:=@List.mem_append_right.{u}
def bC:=@PySem.Heap.lt_size
def cW:=@of_decide_eq_true
def dA:=@PySem.Heap.get?_push_size
def b8.{u}:=@List.mem_cons.{u}
def cE:=@decide_eq_true
def bU:=@Nat.ne_of_lt
def eI.{u}:=@List.mem_append_left.{u}
def bY.{u,v}:=@List.mem_map.{u,v}
def gw:=@PySem.F.plainAttrs_list
def cD.{u,v}:=@List.map_cons.{u,v}
def fO.{u}:=@List.length_singleton.{u}
def dJ.{u}:=@List.length_take.{u}
def dI.{u}:=@List.length_cons.{u}
def eG.{u}:=@List.all_eq_true.{u}
def iz:=@PySem.F.type_list_append
def ix:=@PySem.F.slot_list_append
def gO.{u}:=@List.getElem?_of_mem.{u}
def gu:=@Nat.lt_of_lt_of_le
def d_.{u}:=@List.append_nil.{u}
def fg:=@decide_eq_false
def ff:=@PySem.boot_len
def hU:=@PySem.W.mg_none_of
def iw.{u,v}:=@List.mem_map_of_mem.{u,v}
def gF.{u}:=@List.mem_filter.{u}
def fc.{u,v,w}:=@List.map_map.{u,v,w}
def jk.{u}:=@List.length_filter_le.{u}
def iu.{u}:=@List.append_assoc.{u}
def gE.{u}:=@List.nodup_nil.{u}
def lR.{u}:=@List.getElem?_append_right.{u}
def hJ.{u}:=@Option.some.inj.{u}
def g_.{u}:=@List.nodup_cons.{u}
def jj:=@Bool.and_eq_true_iff
def iI.{u}:=@List.nodup_append.{u}
def dS:=@PySem.wpAny_mono
def gr:=@Nat.le_trans
def ke.{u}:=@List.getElem?_eq_none.{u}
def nq.{u}:=@List.getElem?_append_left.{u}
def nj.{u}:=@Option.isSome_iff_exists.{u}
def gp:=@Nat.zero_le
def ji:=@Int.toNat_natCast
def gk:=@PySem.Paired.snoc
def kc.{u}:=@beq_eq_false_iff_ne.{u}
def qY.{u}:=@List.take_append_of_le_length.{u}
def jh.{u,v}:=@List.mem_flatMap.{u,v}
def j5:=@PySem.wpAny_newObj_type
def jf:=@Bool.eq_iff_iff
def uP:=@PyProof.Rows.slot_tuple_getitem
def pR:=@PySem.wpAny_callSpecial?_slot
def ka:=@PySem.wpAny_call_entry
def j4:=@List.mem_range
def j_.{u}:=@List.length_nil.{u}
def lQ:=@Nat.lt_succ_self
def pQ.{u}:=@List.filter_append.{u}
def jZ:=@PySem.wpAny_holding
def ni:=@Bool.and_eq_true
def qX.{u}:=@List.mem_iff_getElem.{u}
def d8.{u}:=@Ne.symm.{u}
def pO.{u,v}:=@List.flatMap_cons.{u,v}
def qW.{u}:=@Array.length_toList.{u}
def ym:=@PySem.F.slot_dict_keyiterator_next
def yl.{u}:=@List.getD_eq_getElem?_getD.{u}
def je:=@PySem.wpAny_field
def gN.{u,v}:=@Prod.ext.{u,v}
def lP:=@Nat.lt_irrefl
def lO.{u}:=@List.sum_cons.{u}
def uO:=@PySem.Heap.get?_update_other
def jY:=@Int.le_refl
def uN.{u}:=@List.mem_of_mem_take.{u}
def qV:=@PySem.wpAny_Call_Name_kw
def yk:=@PySem.F.slot_list_extend
def qU.{u,v}:=@Option.isSome_map.{u,v}
def qT:=@List.length_range
def yj.{u}:=@List.getElem?_take_of_lt.{u}
def lN:=@Nat.ne_of_gt
def lL:=@Nat.le_of_lt
def i8:=@Int.zero_add
def mC:=@PySem.wpAny_truthy_bool
def mz.{u}:=@List.length_drop.{u}
def rJ.{u}:=@List.take_of_length_le.{u}
def i7:=@PySem.wpAny_typeOf
def oU.{u,v}:=@List.map_singleton.{u,v}
def wF:=@PySem.wpAny_typeNameOfWhole_keyiter
def wD:=@PyProof.Rows.callWith_type1
def mx:=@Nat.not_lt_zero
def mw.{u}:=@List.nil_append.{u}
def rH.{u}:=@Array.getElem?_toList.{u}
def rG:=@PySem.Calls.callWith_builtin
def oT:=@PySem.tupleKind_room_in1
def oS:=@PySem.Calls.spliced_cons
def mr:=@PySem.wpAny_passesOwn
def rF:=@PySem.Heap.get?_update_self
def oR.{u,v}:=@List.getElem_map.{u,v}
def oQ.{u}:=@List.filter_cons.{u}
def oP:=@PySem.wpAny_pyIter_list
def kr:=@PySem.plainId_quiet
def rE:=@PySem.mem_of_lookup
def rD.{u}:=@List.take_succ_cons.{u}
def rC.{u,v}:=@List.map_congr_left.{u,v}
def rB.{u,v}:=@List.flatMap_append.{u,v}
def kq:=@Nat.lt_trans
def wC:=@PySem.F.slot_tuple_iterator_next
def rA:=@PySem.Around.under_plainId
def rq:=@Nat.lt_of_le_of_lt
def mq.{u,v}:=@List.map_take.{u,v}
def oO.{u}:=@List.find?_cons.{u}
def mn:=@Bool.true_and
def wB:=@PySem.wpAny_typeNameOf_keyiter
def wA:=@PySem.F.slot_list_getattribute
def kn.{u,v}:=@Sum.inr.inj.{u,v}
def rp:=@Nat.lt_succ_of_lt
def ro:=@Bool.eq_false_iff
def rm:=@PySem.wpAny_setField_rec
def wz:=@PySem.wpAny_loadPart'
def wy:=@PyProof.Rows.boot_sum
def ml.{u,v}:=@List.map_nil.{u,v}
def rj.{u}:=@beq_self_eq_true.{u}
def oN:=@PySem.W.mg_of
def oM.{u,v}:=@Prod.mk.injEq.{u,v}
def oK.{u}:=@List.any_cons.{u}
def oJ:=@PySem.Heap.size_push
def wu:=@PySem.wpAny_pyNext_list_end
def wt:=@PySem.wpAny_notOrdered_dict
def rh.{u,v}:=@Option.map_some.{u,v}
def wq:=@PySem.F.slot_enumerate_next
def wo.{u}:=@Array.toList_append.{u}
def Au.{u}:=@Array.getElem?_eq_some_iff.{u}
def rg:=@PySem.Around.in1_units
def wm:=@PySem.wpAny_loadName_local
def wk:=@PySem.codeAny_call_builtin
def oH:=@Nat.zero_add
def oG:=@Nat.sub_self
def wj.{u}:=@List.pairwise_cons.{u}
def wg:=@PySem.F.slot_NoneType_hash
def wc:=@PySem.Calls.evalArgs_plain
def wb:=@Bool.false_eq_true
def oF:=@PySem.wpAny_attempt
def rf.{u}:=@List.drop_zero.{u}
def q_:=@Bool.false_and
def As.{u}:=@Array.getElem?_eq_getElem.{u}
def kj:=@PySem.wpAny_rule
def ki:=@PySem.wpAny_call
def mj:=@PySem.sizeLine_eq
def q0:=@PySem.codeAny_builtin
def Ar:=@PySem.F.type_list_extend
def Aq:=@PySem.F.slot_dict_update
def Ap:=@PySem.F.args_tuple_add_2
def wa.{u}:=@List.reverse_cons.{u}
def Ao.{u}:=@List.length_erase_of_mem.{u}
def v_.{u,v}:=@List.foldl_append.{u,v}
def v9:=@PySem.Heap.SameBut.update
def An:=@PySem.F.plainAttrs_dict
def Am:=@PySem.F.entry_tuple_add
def Ak:=@PyProof.Rows.boot_tuple
def oE:=@Nat.le_succ
def v8:=@PySem.wpAny_pyIter_tuple
def v7:=@PySem.SeqAt.EqAt.int_int
def v3:=@PySem.Obj.data_mapFields
def vZ.{u}:=@List.getElem_mem.{u}
def vY.{u}:=@List.getElem_inj.{u}
def qZ:=@PySem.wpAny_seqItems
def Aj:=@PySem.F.slot_tuple_add
def Ai.{u}:=@List.length_pos_of_mem.{u}
def Ah.{u}:=@List.drop_eq_nil_of_le.{u}
def Ag.{u}:=@Array.getElem?_eq_none.{u}
namespace L2
open PySem PySem.Spec PyProof.Rows
abbrev aN:=Sum Int Str
def lY:aN->Value->Bool
 | .inl k,v=>Value.isInt k v
 | .inr x,v=>Value.isStrOf x v
def R_ (w:World):aN->Int
 | .inl k=>hashInt k
 | .inr x=>hashStr w x
def cV:∀{k:aN}{v:Value},lY k v=true->(∃i t,k=Sum.inl i/\v=Value.int i t)\/(∃x t,k=Sum.inr x/\v=Value.str x t)
 | .inl i,v,h=>by
  obtain⟨t,e⟩:=Value.isInt_shape (k:=i) (v:=v) h;exact .inl ⟨i,t,rfl,e⟩
 | .inr x,v,h=>by
  obtain⟨t,e⟩:=Value.isStrOf_shape (x:=x) (v:=v) h;exact .inr ⟨x,t,rfl,e⟩
def Ew (i:Int)(t:Tok):lY (.inl i) (.int i t)=true:=by simp [lY,Value.isInt]
def Eu (x:Str)(t:Tok):lY (.inr x) (.str x t)=true:=by simp [lY,Value.isStrOf]
def Ow (a b:Int):decide ((Sum.inl a:aN)=Sum.inl b)=(a == b):=by
 by_cases e:a=b
 .subst e;simp
 have h:¬(Sum.inl a:aN)=Sum.inl b:=λq=>e (Sum.inl.inj q);rw [fg h];exact(kc.mpr e).symm
def Ot (a b:Str):decide ((Sum.inr a:aN)=Sum.inr b)=decide (a=b):=by
 by_cases e:a=b
 .subst e;simp
 have h:¬(Sum.inr a:aN)=Sum.inr b:=λq=>e (kn q);rw [fg h,fg e]
def Ov (a:Int)(b:Str):decide ((Sum.inl a:aN)=Sum.inr b)=false:=fg (λq=>nomatch q)
def Ou (a:Str) (b:Int):decide ((Sum.inr a:aN)=Sum.inl b)=false:=fg (λq=>nomatch q)
def aX (prog:Program)(w:World):PySem.KeyKind prog w aN where
 is:=lY
 hash:=R_ w
 inj:=λv a b ha hb=>by
  rcases cV ha with ⟨i,t,rfl,rfl⟩ | ⟨x,t,rfl,rfl⟩
  .rcases cV hb with ⟨j,u,rfl,e⟩ | ⟨y,u,rfl,e⟩
   .injection e with e1 _;rw [e1]
   exact nomatch e
  rcases cV hb with ⟨j,u,rfl,e⟩ | ⟨y,u,rfl,e⟩
  .exact nomatch e
  injection e with e1 _;rw [e1]
 byValue:=λk v h=>by
  rcases cV h with ⟨i,t,rfl,rfl⟩ | ⟨x,t,rfl,rfl⟩ <;> rfl
 pyHash:=λhv h=>by
  rcases cV hv with ⟨i,t,rfl,rfl⟩ | ⟨x,t,rfl,rfl⟩
  .exact wpAny_pyHash_int h
  exact wpAny_pyHash_str h
 eqBool:=λhu hv h=>by
  rcases cV hu with ⟨i,t,rfl,rfl⟩ | ⟨x,t,rfl,rfl⟩
  .rcases cV hv with ⟨j,u,rfl,rfl⟩ | ⟨y,u,rfl,rfl⟩
   .rw [Ow] at h;exact wpAny_eqBool_int h
   rw [Ov] at h;exact SeqAt.EqAt.int_str i t y u _ _ _ _ h
  rcases cV hv with ⟨j,u,rfl,rfl⟩ | ⟨y,u,rfl,rfl⟩
  .rw [Ou] at h;exact SeqAt.EqAt.str_int x t j u _ _ _ _ h
  rw [Ot] at h;exact wpAny_eqBool_str h
 «strs»:=λk x t v h=>by
  rcases cV h with ⟨i,u,rfl,e⟩ | ⟨y,u,rfl,e⟩
  .exact nomatch e
  injection e with e1 _;subst e1;cases v <;> rfl
def yU (prog:Program)(w:World) (i:Int)(t:Tok):(aX prog w).is (.inl i) (.int i t)=true:=Ew i t
def yT (prog:Program)(w:World)(x:Str)(t:Tok):(aX prog w).is (.inr x) (.str x t)=true:=Eu x t
inductive V where
 | d0 | bl (b:Bool) | int (i:Int) | str (x:Str) | B9 (b:Array UInt8) | Tj (b:UInt64) | ref (a:Addr) | ty (n:String)
 deriving DecidableEq
def RelV:V->Value->Prop
 | .d0,u=>u=Value.none
 | .bl b,u=>u=Value.bool b
 | .int i,u=>∃t,u=Value.int i t
 | .str x,u=>∃t,u=Value.str x t
 | .B9 b,u=>∃t,u=Value.bytes b t
 | .Tj b,u=>∃t,u=Value.float b t
 | .ref a,u=>u=Value.ref a
 | .ty n,u=>u=Value.type n
abbrev bF:List V->z0n->Prop:=Paired RelV
theorem bF.length {xs:List V}{us:z0n}(r:bF xs us):xs.length=us.length:=bc r
theorem bF.get:∀{xs:List V}{us:z0n}{i:Nat}{x:V},bF xs us->xs[i]?=some x->∃u,us[i]?=some u/\RelV x u
 | _,_,_,_,.nil,e=>by simp at e
 | _,_,0,_,.cons r _,e=>by simp at e;subst e;exact⟨_,rfl,r⟩
 | _,_,i+1,x,.cons _ t,e=>by
  obtain⟨u,h1,h2⟩:=bF.get (i:=i) (x:=x) t (by simpa using e);exact⟨u,by simpa using h1,h2⟩
theorem bF.append:∀{xs ys:List V}{us ws:z0n},bF xs us->bF ys ws->bF (xs++ys) (us++ws)
 | _,_,_,_,.nil,s=>s
 | _,_,_,_,.cons r t,s=>.cons r (bF.append t s)
theorem bF.take:∀{xs:List V}{us:z0n}(n:Nat),bF xs us->bF (xs.take n) (us.take n)
 | _,_,0,_=>.nil
 | _,_,_+1,.nil=>.nil
 | _,_,n+1,.cons r t=>.cons r (bF.take n t)
theorem bF.drop:∀{xs:List V}{us:z0n}(n:Nat),bF xs us->bF (xs.drop n) (us.drop n)
 | _,_,0,r=>r
 | _,_,_+1,.nil=>.nil
 | _,_,n+1,.cons _ t=>bF.drop n t
def jW:Option V->z0k->Prop
 | some v,some u=>RelV v u
 | none,none=>True
 | _,_=>False
def KV {κ:Type}:List (κ×V)->List (κ×Value)->Prop:=Paired λ(p:κ×V)(q:κ×Value)=>p.1=q.1/\RelV p.2 q.2
def kV:aN->V
 | .inl i=>.int i
 | .inr x=>.str x
inductive HO where
 | lst (xs:List V)
 | tup (xs:List V)
 | dK (kvs:87) | dT (kvs:List (List aN×V))
 | set (S:Int->Bool) (n:Nat)
 | ins (C dx:Addr)(fs:List (Str×V))
 | own (x:Addr)
 | xd (fs:List (Str×V))
 | met (f x:Addr)
 | Fl (lo hi:Int)
 | md (o:Obj)(u:HO)
 | ui (ps:z0l)
 | ext (φ:z0o)
abbrev Hp:=Addr->Option HO
def upd (H:Hp)(a:Addr)(o:HO):Hp:=λb=>if b=a then some o else H b
def ae {H:Hp}{a:Addr}{o:HO}:upd H a o a=some o:=by unfold upd;rw [aw rfl]
def aj {H:Hp}{a b:Addr}{o:HO}(h:b≠a):upd H a o b=H b:=by unfold upd;rw [ar h]
def nu {H:Hp}{a:Addr}{o u:HO}:upd (upd H a o) a u=upd H a u:=by
 funext b;unfold upd;split <;> rfl
def RK {H:Hp}{a b:Addr}{o u:HO}(h:H a=some o)(h':H b=some u)(d:o≠u):a≠b:=by
 intro e;subst e;rw [h] at h';exact d (hJ h')
def aC {H:Hp}{a b:Addr}{o:HO}(h:H a=some o)(h':H b=none):a≠b:=by
 intro e;subst e;rw [h] at h';cases h'
section
variable (P:Program)(w:World)
def cP (H:Hp)(h:Heap)(a:Addr):HO->Prop
 | .lst xs=>xs.length<=sizeLine/\∃(aT:z0n) (n:Nat),bF xs aT/\h.get? a=some { cls:=.type "list",data:=.seq aT.toArray n }
 | .tup xs=>xs.length<=sizeLine/\∃aT:z0n,bF xs aT/\IsTup h a aT.toArray
 | .dK kvs=>kvs.length<=sizeLine/\(a == sysModules)=false/\∃vs,KV kvs vs/\h.DictOf (aX P w) a vs
 | .dT kvs=>kvs.length<=sizeLine/\(a == sysModules)=false/\∃xs:List (List aN×Addr×Value),
   Paired (λ(p:List aN×V)(q:List aN×Addr×Value)=>p.1=q.1/\H q.2.1=some (.tup (p.1.map kV))/\RelV p.2 q.2.2) kvs xs /\
   ∃o es ep,h.get? a=some o/\o.ExactDict/\o.data=.dict es ep/\es.toList=xs.map (entryOfKey (tupleKind (aX P w)))/\(xs.map 82).Nodup
 | .set S n=>h.SetOf (intKind P w) a S n
 | .ins C dx fs=>H dx=some (.own a)/\fs.length<=1000/\dx≠a/\h.get? a=some (PySem.W.instObj C dx) /\
   ∃mA,h.Ns1 dx mA/\(∀f,jW (fs.lookup f) (mA f))/\PySem.Within mA (fs.map 82)
 | .own _=>∃o,h.get? a=some o
 | .xd fs=>∃mA,h.Ns1 a mA/\∀f,jW (fs.lookup f) (mA f)
 | .Fl lo hi=>∃t u v,h.get? a=some { cls:=.type "range",data:=.fields #[.int lo t,.int hi u,.int 1 v] }
 | .md o u=>h.get? a=some o/\cP H h a u
 | .ui ps=>h.get? a=some { cls:=.none,data:=.fields ps }
 | .met f x=>h.get? a=some (PySem.W.methodObj (.ref f) (.ref x))
 | .ext φ=>φ h/\(∃o,h.get? a=some o)/\∀h1 h2:Heap,φ h1->(∀o,h1.get? a=some o->h2.get? a=some o)->φ h2
def nh (H:Hp)(h:Heap):Prop:=∀a o,H a=some o->cP P w H h a o
end
section
variable {P:Program}{w:World}{H H':Hp}{h h':Heap}{a:Addr}{o:HO}
theorem cP.lt (x:cP P w H h a o):a < h.objs.size:=by
 cases o with
 | lst xs=>obtain⟨_,_,_,_,e⟩:=x;exact bC e
 | tup xs=>obtain⟨_,_,_,p⟩:=x;exact p.lt
 | dK kvs=>obtain⟨_,_,_,_,o,_,_,e,_⟩:=x;exact bC e
 | dT kvs=>obtain⟨_,_,_,_,o,_,_,e,_⟩:=x;exact bC e
 | set S n=>obtain⟨o,_,_,_,e,_⟩:=x;exact bC e
 | ins C dx fs=>obtain⟨_,_,_,e,_⟩:=x;exact bC e
 | own y=>obtain⟨_,e⟩:=x;exact bC e
 | xd fs=>obtain⟨_,⟨_,_,_,e,_⟩,_⟩:=x;exact bC e
 | Fl lo hi=>obtain⟨_,_,_,e⟩:=x;exact bC e
 | md ob u=>obtain⟨e,_⟩:=x;exact bC e
 | ui ps=>exact bC (show h.get? a=some _ from x)
 | met f y=>exact bC (show h.get? a=some _ from x)
 | ext φ=>obtain⟨_,⟨_,e⟩,_⟩:=x;exact bC e
theorem Paired.b_ {α β:Type}{F G:α->β->Prop}:∀{l₁:List α}{l₂:List β},Paired F l₁ l₂->(∀a b,F a b->G a b)->Paired G l₁ l₂
 | _,_,.nil,_=>.nil
 | _,_,.cons r t,f=>.cons (f _ _ r) (Paired.b_ t f)
def cP.kM (x:cP P w H h a o)(k:∀b u,(b=a\/H b=some (.own a))->h.get? b=some u->h'.get? b=some u)
  (ho:∀b,H b=some (.own a)->H' b=some (.own a))(ht:∀b xs,H b=some (.tup xs)->H' b=some (.tup xs)):cP P w H' h' a o:=by
 induction o with
 | lst xs=>obtain⟨z,aT,n,r,e⟩:=x;exact⟨z,aT,n,r,k _ _ (.inl rfl) e⟩
 | tup xs=>obtain⟨z,aT,r,ob,e,c⟩:=x;exact⟨z,aT,r,ob,k _ _ (.inl rfl) e,c⟩
 | dK kvs=>obtain⟨z,y,vs,r,ob,es,ep,e,c⟩:=x;exact⟨z,y,vs,r,ob,es,ep,k _ _ (.inl rfl) e,c⟩
 | dT kvs =>
  obtain⟨z,y,xs,r,ob,es,ep,e,c,c1,c2,c3⟩:=x;exact⟨z,y,xs,Paired.b_ r λp q z=>⟨z.1,ht _ _ z.2.1,z.2.2⟩,ob,es,ep,k _ _ (.inl rfl) e,c,c1,c2,c3⟩
 | set S n=>obtain⟨ob,es,ep,t,e,c⟩:=x;exact⟨ob,es,ep,t,k _ _ (.inl rfl) e,c⟩
 | ins C dx fs =>
  obtain⟨d,z,ne,e,mA,⟨od,es,ep,e2,c⟩,r,r1⟩:=x;exact⟨ho _ d,z,ne,k _ _ (.inl rfl) e,mA,⟨od,es,ep,k _ _ (.inr d) e2,c⟩,r,r1⟩
 | own y=>obtain⟨ob,e⟩:=x;exact⟨ob,k _ _ (.inl rfl) e⟩
 | xd fs=>obtain⟨mA,⟨od,es,ep,e,c⟩,r⟩:=x;exact⟨mA,⟨od,es,ep,k _ _ (.inl rfl) e,c⟩,r⟩
 | Fl lo hi=>obtain⟨t,u,v,e⟩:=x;exact⟨t,u,v,k _ _ (.inl rfl) e⟩
 | md ob u ih=>obtain⟨e,q⟩:=x;exact⟨k _ _ (.inl rfl) e,ih q⟩
 | ui ps =>
  have e:h.get? a=some { cls:=.none,data:=.fields ps }:=x;show h'.get? a=some { cls:=.none,data:=.fields ps };exact k a _ (.inl rfl) e
 | met f y =>
  have e:h.get? a=some (PySem.W.methodObj (.ref f) (.ref y)):=x;show h'.get? a=some (PySem.W.methodObj (.ref f) (.ref y));exact k a _ (.inl rfl) e
 | ext φ=>obtain⟨p,⟨o,e⟩,st⟩:=x;exact⟨st _ _ p λo q=>k _ _ (.inl rfl) q,⟨o,k _ _ (.inl rfl) e⟩,st⟩
theorem nh.lt (x:nh P w H h)(e:H a=some o):a < h.objs.size:=(x a o e).lt
def nh.fresh (x:nh P w H h)(e:h.objs.size<=a):H a=none:=by
 cases q:H a with
 | none=>rfl
 | some u=>exact absurd (gu (x.lt q) e) (lP _)
def nh.kept (x:nh P w H h)(k:∀b u,h.get? b=some u->h'.get? b=some u):nh P w H h':=λa o e =>
 (x a o e).kM (λb u _ q=>k b u q) (λ_ q=>q) λ_ _ q=>q
def nh.laid (x:nh P w H h)(k:∀b u,h.get? b=some u->h'.get? b=some u)(hp:h.objs.size<=a)(new:cP P w (upd H a o) h' a o):nh P w (upd H a o) h':=λb u e=>by
 have hn:=x.fresh hp;by_cases hb:b=a
 .subst hb;rw [ae] at e;cases e;exact new
 rw [aj hb] at e;exact(x b u e).kM (λc v _ q=>k c v q) (λc q=>by rw [aj (aC q hn)];exact q) λc xs q=>by rw [aj (aC q hn)];exact q
end
def Rd (H:Hp)(a:Addr)(u:HO):Prop:=H a=some u\/∃o,H a=some (.md o u)
def Rd.ok {P:Program}{w:World}{H:Hp}{h:Heap}{a:Addr}{u:HO}(r:Rd H a u)(x:nh P w H h):cP P w H h a u:=by
 rcases r with r | ⟨o,r⟩
 .exact x a u r
 obtain⟨_,q⟩:=x a _ r;exact q
def Uq:Option HO->Prop
 | some (.lst _)=>True
 | some (.dK _)=>True
 | some (.dT _)=>True
 | some (.set _ _)=>True
 | some (.ins _ _ _)=>True
 | some (.ext _)=>True
 | _=>False
section
variable {P:Program}{w:World}{H:Hp}{h h':Heap}{x e:Addr}{o':HO}
def nh.write (ok:nh P w H h)(mu:Uq (H x))(he:e=x\/H e=some (.own x))(k:∀b u,b≠e->h.get? b=some u->h'.get? b=some u)(Qg:∃u,h'.get? e=some u)
  (new:cP P w (upd H x o') h' x o'):nh P w (upd H x o') h':=λb u q=>by
 have RG:∀c y,H c=some (.own y)->c≠x:=λc y r z=>by subst z;rw [r] at mu;exact mu
 have Xl:∀c xs,H c=some (.tup xs)->c≠x:=λc xs r z=>by subst z;rw [r] at mu;exact mu
 by_cases hb:b=x
 .subst hb;rw [ae] at q;cases q;exact new
 rw [aj hb] at q;by_cases OQ:b=e
 .have q':H b=some (.own x):=by
   rcases he with z | z
   .exact absurd (OQ.trans z) hb
   rw [OQ];exact z
  rw [q] at q';cases q';obtain⟨v,hv⟩:=Qg;exact⟨v,by rw [OQ];exact hv⟩
 refine(ok b u q).kM (λc v hc r=>k c v ?_ r) (λc r=>by rw [aj (RG c b r)];exact r) λc xs r=>by rw [aj (Xl c xs r)];exact r
 rcases hc with rfl | hc
 .exact OQ
 rintro rfl;rcases he with z | z
 .exact RG c b hc z
 rw [hc] at z;cases z;exact hb rfl
end
structure Un (fs ex:z0q)(H H':Hp)(h h':Heap):Prop where
 keep:∀b o,h.get? b=some o->H b=none->b∉fs->b∉ex->h'.get? b=some o
 slot:∀b o,h.get? b=some o->H b=none->b∈fs->b∉ex->∃sl,h'.get? b=some { o with slots:=sl }
 free:∀b o,h.get? b=some o->H b=none->b∉ex->H' b=none
 there:∀b o,h.get? b=some o->b∉ex->∃o',h'.get? b=some o'
 wL:∀b xs,H b=some (.tup xs)->H' b=some (.tup xs)
 uD:∀b o u,H b=some (.md o u)->H' b=some (.md o u)
 ur:∀b ps,H b=some (.ui ps)->∃more,H' b=some (.ui (ps++more))
section
variable {fs MP ex ex':z0q}{H H1 H2:Hp}{h h1 h2 h':Heap}{a x e:Addr}{o:HO}
def Un.any (u:Un fs ex H H1 h h1){b:Addr}{ob:Obj}(q:h.get? b=some ob)(n:H b=none)(hx:b∉ex):∃sl,h1.get? b=some { ob with slots:=sl }:=by
 by_cases hb:b∈fs
 .exact u.slot b ob q n hb hx
 exact⟨ob.slots,u.keep b ob q n hb hx⟩
def Un.kept (k:∀b u,h.get? b=some u->h'.get? b=some u):Un fs ex H H h h' :=
 ⟨λb ob q _ _ _=>k b ob q,λb ob q _ _ _=>⟨ob.slots,k b ob q⟩,λ_ _ _ n _=>n,λb ob q _=>⟨ob,k b ob q⟩,λ_ _ q=>q,λ_ _ _ q=>q,λ_ ps q=>⟨#[],by rw [q];simp⟩⟩
def Un.refl:Un fs ex H H h h:=Un.kept λ_ _ q=>q
def Un.laid (k:∀b u,h.get? b=some u->h'.get? b=some u)(hp:h.objs.size<=a)(hn:H a=none):Un fs ex H (upd H a o) h h' where
 keep:=λb u q _ _ _=>k b u q
 slot:=λb u q _ _ _=>⟨u.slots,k b u q⟩
 free:=λb u q n _=>by rw [aj (bU (gu (bC q) hp))];exact n
 there:=λb u q _=>⟨u,k b u q⟩
 wL:=λb xs q=>by rw [aj (aC q hn)];exact q
 uD:=λb u xs q=>by rw [aj (aC q hn)];exact q
 ur:=λb ps q=>⟨#[],by rw [aj (aC q hn),q];simp⟩
def Un.write (mu:Uq (H x))(he:e=x\/H e=some (.own x))(k:∀b u,b≠e->h.get? b=some u->h'.get? b=some u)(Qg:∃u,h'.get? e=some u):Un fs ex H (upd H x o) h h':=by
 have hx:∀b,H b=none->b≠x:=λb n z=>by subst z;rw [n] at mu;exact mu
 have hb:∀b,H b=none->b≠e:=λb n z=>by
  subst z;rcases he with r | r
  .exact hx b n r
  rw [n] at r;cases r
 have hm:∀b u,H b=some u->¬Uq (some u)->b≠x:=λb u q nm z=>by subst z;rw [q] at mu;exact nm mu
 refine⟨λb u q n _ _=>k b u (hb b n) q,λb u q n _ _=>⟨u.slots,k b u (hb b n) q⟩,λb u q n _=>by rw [aj (hx b n)];exact n,λb u q _=>?_,
  λb xs q=>by rw [aj (hm b _ q λz=>z)];exact q,λb u xs q=>by rw [aj (hm b _ q λz=>z)];exact q,λb ps q=>⟨#[],by rw [aj (hm b _ q λz=>z),q];simp⟩⟩
 by_cases OQ:b=e
 .subst OQ;exact Qg
 exact⟨u,k b u OQ q⟩
end
def Jv (h:Heap)(H:Hp):z0q:=(List.range h.objs.size).filter λa=>(H a).isSome
def uB (h:Heap)(H:Hp):Heap:=PySem.W.hideAll h (Jv h H)
def EC (h:Heap)(H:Hp):(uB h H).objs.size=h.objs.size:=PySem.W.hideAll_size _ _
def Iq {h:Heap}{H:Hp}{b:Addr}{o:Obj}(e:h.get? b=some o)(n:H b=none):(uB h H).get? b=some o :=
 PySem.W.hideAll_get _ e λhm=>by
  have q:(H b).isSome=true:=(gF.mp hm).2;rw [n] at q;simp at q
def KO {h:Heap}{H:Hp}{b:Addr}{o:Obj}(e:(uB h H).get? b=some o):h.get? b=some o/\H b=none:=by
 have e':h.get? b=some o:=PySem.W.of_hideAll (Jv h H) e;refine⟨e',?_⟩;cases q:H b with
 | none=>rfl
 | some x =>
  have hm:b∈Jv h H:=gF.mpr ⟨j4.mpr (bC e'),by simp [q]⟩;have z:(uB h H).get? b=none:=PySem.W.hideAll_none (Jv h H) hm;rw [z] at e;cases e
structure Mod (K:bp)(mg:z0c)(base:Heap):Prop where
 R9:K.In base
 glob:base.Ns mainGlobals mg
 blt:∃mb,base.Ns builtinsNs mb/\∀x:Str,x ≠ "__name__" -> mb x=bootBuiltins x
 nolimit:base.NoLimit
structure Cx where
 prog:Program
 w:World
 K:bp
 mg:Str->z0k
 base:Heap
 A:Around
 N:z0t
 s₀:Shared
 H₀:Hp
 env:Env
 outer:List Env
 stack:List Env
 ex:z0q
 fn:Str->Bool
 calm:Bool
 pn:z0e
 xe:Value->Shared->Prop
def EJ (l:List Env):z0q:=l.filterMap (·.frame)
abbrev Cx.fs (X:Cx):z0q:=EJ X.outer
def V2 (sc:Scope)(x:Str):Prop:=sc.names.lookup x=some .local\/sc.names.lookup x=some .cell\/sc.names.lookup x=some .free
def Loc (sc:Scope)(x:Str):Prop:=sc.names.lookup x=some .local\/sc.names.lookup x=some .cell
def Look (env:Env)(h:Heap)(m:z0c)(x:Str)(u:Value):Prop :=
 (env.kindOf x=some .local/\m x=some u)\/((env.kindOf x=some .cell\/env.kindOf x=some .free)/\∃c,env.cells.lookup x=some c/\h.IsCell c (some u))
structure Cx.Ok (X:Cx):Prop where
 mod:Mod X.K X.mg X.base
 kind:X.env.scope.kind=.function
 glob:X.env.globals=mainGlobals
 blt:X.env.builtins=builtinsNs
 above:X.s₀.heap.objs.size<=X.env.locals
 inj:∀x y c,X.env.cells.lookup x=some c->X.env.cells.lookup y=some c->x=y
 has:∀x,(X.env.kindOf x=some .cell\/X.env.kindOf x=some .free)->∃c,X.env.cells.lookup x=some c
 T5:∀x c,X.fn x=true->X.env.cells.lookup x=some c->X.s₀.heap.objs.size<=c
 hd:X.calm=true->X.A.handled=none
 frames:X.A.frames=some X.stack
 UO:X.stack=X.outer\/(X.stack=X.env::X.outer/\X.env.frame=some X.env.locals)
 Qn:∀b∈X.ex,b≠X.env.locals/\∀x c,X.env.cells.lookup x=some c->c≠b
 bs:∀b o,X.base.get? b=some o->X.s₀.heap.get? b=some o/\X.H₀ b=none
 LI:X.base.objs.size<=X.s₀.heap.objs.size
 HQ:∀b o,X.base.get? b=some o->b∉X.ex
 EL:∀b∈X.ex,b∉X.fs
 qv:X.s₀.heap.FunFrames X.base X.outer
 OY:∀b∈X.fs,X.H₀ b=none
structure Inv (X:Cx)(ag:z0e)(σ:List (Option V))(H:Hp)(s:Shared):Prop where
 ok:X.Ok
 os:s.os=X.s₀.os
 bare:AllBare s.gens
 base:Un X.fs X.ex X.H₀ H X.s₀.heap s.heap
 loc:∃m,s.heap.Ns X.env.locals m/\∀(i:Nat)(x:Str)(v:V),X.N[i]?=some x->σ[i]?=some (some v)->V2 X.env.scope x->∃u,RelV v u/\Look X.env s.heap m x u
 cell:∀x c,X.env.cells.lookup x=some c->∃v,s.heap.IsCell c v
 free:H X.env.locals=none
 me:∀x c,X.env.cells.lookup x=some c->H c=none
 pin:∀p∈X.pn++ag,s.heap.get? p.1=some p.2/\H p.1=none/\p.1≠X.env.locals/\p.1∉X.fs/\∀v,p.2.data≠.cell v
 cu:nh X.prog X.w H s.heap
 len:σ.length=X.N.length
section
variable {X:Cx}{ag:z0e}{σ:List (Option V)}{H H':Hp}{s:Shared}{h':Heap}
def Cx.Ok.Xo (ok:X.Ok){b:Addr}{o:Obj}(e:X.base.get? b=some o):b∉X.fs:=λhb=>by
 have:=(ok.qv.mem hb).1;rw [e] at this;cases this
theorem Inv.bs (I:133):∀b o,X.base.get? b=some o->158/\H b=none:=λb o e =>
 ⟨I.base.keep b o (I.ok.bs b o e).1 (I.ok.bs b o e).2 (I.ok.Xo e) (I.ok.HQ b o e),I.base.free b o (I.ok.bs b o e).1 (I.ok.bs b o e).2 (I.ok.HQ b o e)⟩
def Inv.bk (I:133):∀b o,X.base.get? b=some o->158:=λb o e=>(I.bs b o e).1
theorem Inv.mod (I:133):Mod X.K X.mg X.base:=I.ok.mod
def Inv.yY (I:133):X.K.In s.heap:=I.ok.mod.R9.keeps I.bk
def Inv.fr (I:133):∃m,Fr X.base X.env.locals s.heap m :=
 let ⟨m,hn,_⟩:=I.loc
 ⟨m,hn,I.bk,gr I.ok.LI I.ok.above⟩
theorem Inv.lt (I:133):X.env.locals < s.heap.objs.size:=let ⟨_,hn,_⟩:=I.loc;hn.lt
def Inv.sz (I:133):X.s₀.heap.objs.size<=s.heap.objs.size:=gr I.ok.above (lL I.lt)
def Inv.Xn (I:133){a:Addr}(h:s.heap.objs.size<=a):a∉X.fs:=λhb=>by
 obtain⟨_,o,ho,_⟩:=I.ok.qv.mem hb;exact absurd (gu (bC ho) (gr I.sz h)) (lP _)
def Inv.Pt (I:133):∀x c,X.env.cells.lookup x=some c->c≠X.env.locals:=λx c e z=>by
 obtain⟨v,o,ho,hd⟩:=I.cell x c e;obtain⟨m,⟨o',es,ep,BG,EE,_⟩,_⟩:=I.loc;rw [z,BG] at ho;cases ho;rw [EE] at hd;cases hd
theorem Inv.qv (I:133):s.heap.FunFrames X.base X.outer:=by
 have all:∀(l:List Env),(∀b∈EJ l,b∈X.fs)->X.s₀.heap.FunFrames X.base l->s.heap.FunFrames X.base l:=by
  intro l
  induction l with
  | nil=>intro _ _;trivial
  | cons env r ih =>
   intro hs hl;obtain⟨hk,⟨L,o,hf,hn,ho,hd⟩,hr⟩:=hl;have hL:L∈X.fs:=hs L (by unfold EJ;rw [List.filterMap_cons,hf];exact cR);obtain⟨sl,e⟩:=I.base.slot L o ho (I.ok.OY L hL) hL λz=>I.ok.EL L z hL;exact⟨hk,⟨L,_,hf,hn,e,hd⟩,ih (λb hb=>hs b (by unfold EJ;rw [List.filterMap_cons,hf];exact cS _ hb)) hr⟩
 exact all X.outer (λ_ hb=>hb) I.ok.qv
theorem Inv.stack (I:133):s.heap.FunFrames X.base X.stack:=by
 rcases I.ok.UO with e | ⟨e,hf⟩
 .rw [e];exact I.qv
 rw [e];obtain⟨m,hn,_⟩:=I.loc;refine .cons (by rw [I.ok.kind];decide) hf hn ?_ I.qv;exact Heap.get?_none_of_le (gr I.ok.LI I.ok.above)
def Inv.AB (I:133):∀b∈EJ X.stack,b∈X.env.locals::X.fs:=λb hb=>by
 rcases I.ok.UO with e | ⟨e,hf⟩
 .rw [e] at hb;exact cS _ hb
 rw [e] at hb;unfold EJ at hb;rw [List.filterMap_cons,hf] at hb;exact hb
def Inv.Cu (I:133):∀b∈EJ X.stack,H b=none:=λb hb=>by
 rcases b8.mp (I.AB b hb) with e | hb
 .rw [e];exact I.free
 obtain⟨_,o,ho,_⟩:=I.ok.qv.mem hb;exact I.base.free b o ho (I.ok.OY b hb) λz=>I.ok.EL b z hb
def Inv.step {g':Array GenState}{t':Nat}{d':Drawn}{ch:z0q}(I:133)
  (JF:∀b∈ch,(b∈X.ex\/X.s₀.heap.objs.size<=b)/\b≠X.env.locals/\(∀x c,X.env.cells.lookup x=some c->c≠b)/\∀p∈X.pn++ag,p.1≠b)
  (keep:∀b o,b≠X.env.locals->b∉X.fs->b∉ch->158->H b=none->h'.get? b=some o)
  (slot:∀b o,b≠X.env.locals->b∈X.fs->b∉ch->158->H b=none->∃sl,h'.get? b=some { o with slots:=sl })(free:∀b o,b∉ch->158->H b=none->H' b=none)
  (there:∀b o,b∉ch->158->∃o',h'.get? b=some o')
  (wL:∀b xs,H b=some (.tup xs)->H' b=some (.tup xs))(uD:∀b o u,H b=some (.md o u)->H' b=some (.md o u))(ur:∀b ps,H b=some (.ui ps)->∃more,H' b=some (.ui (ps++more)))
  (ns:∀m,s.heap.Ns X.env.locals m->h'.Ns X.env.locals m)(cu:nh X.prog X.w H' h')(hg:AllBare g') :
  Inv X ag σ H' { s with heap:=h',gens:=g',drawn:=d',toks:=t' }:=by
 have neL:∀b o,X.s₀.heap.get? b=some o->b≠X.env.locals:=λb o e=>bU (gu (bC e) I.ok.above);have P7:∀b o,X.s₀.heap.get? b=some o->b∉X.ex->b∉ch:=λb o e hx hb=>by
  rcases (JF b hb).1 with z | z
  .exact hx z
  exact absurd (gu (bC e) z) (lP _)
 have cellK:∀x c,X.env.cells.lookup x=some c->∀v,s.heap.IsCell c v->h'.IsCell c v:=λx c e v ⟨o,ho,hd⟩=>by
  have RL:c∉ch:=λz=>(JF c z).2.2.1 x c e rfl;by_cases hc:c∈X.fs
  .obtain⟨sl,q⟩:=slot c o (I.Pt x c e) hc RL ho (I.me x c e);exact⟨_,q,hd⟩
  exact⟨o,keep c o (I.Pt x c e) hc RL ho (I.me x c e),hd⟩
 refine⟨I.ok,I.os,hg,⟨λb o e n hb hx=>?_,λb o e n hb hx=>?_,λb o e n hx=>?_,λb o e hx=>?_,λb xs e=>wL b xs (I.base.wL b xs e),λb o xs e=>uD b o xs (I.base.uD b o xs e),λb ps e=>?_⟩,?_,λx c e=>?_,?_,λx c e=>?_,λp hp=>?_,cu,I.len⟩
 .exact keep b o (neL b o e) hb (P7 b o e hx) (I.base.keep b o e n hb hx) (I.base.free b o e n hx)
 .obtain⟨sl,e1⟩:=I.base.slot b o e n hb hx;obtain⟨sl',e2⟩:=slot b _ (neL b o e) hb (P7 b o e hx) e1 (I.base.free b o e n hx);exact⟨sl',e2⟩
 .obtain⟨o',e1⟩:=I.base.there b o e hx;exact free b o' (P7 b o e hx) e1 (I.base.free b o e n hx)
 .obtain⟨o',e1⟩:=I.base.there b o e hx;exact there b o' (P7 b o e hx) e1
 .obtain⟨m1,e1⟩:=I.base.ur b ps e;obtain⟨m2,e2⟩:=ur b _ e1;exact⟨m1++m2,by rw [e2,Array.append_assoc]⟩
 .obtain⟨m,hn,hl⟩:=I.loc;refine⟨m,ns m hn,λi x v e1 e2 e3=>?_⟩;obtain⟨u,r,l⟩:=hl i x v e1 e2 e3;refine⟨u,r,?_⟩;rcases l with l | ⟨k,c,e,z⟩
  .exact .inl l
  exact .inr ⟨k,c,e,cellK x c e _ z⟩
 .obtain⟨v,z⟩:=I.cell x c e;exact⟨v,cellK x c e v z⟩
 .obtain⟨m,⟨o,_,_,ho,_⟩,_⟩:=I.loc;exact free _ o (λz=>(JF _ z).2.1 rfl) ho I.free
 .obtain⟨v,o,ho,hd⟩:=I.cell x c e;exact free c o (λz=>(JF c z).2.2.1 x c e rfl) ho (I.me x c e)
 obtain⟨e,n,ne,nf,d⟩:=I.pin p hp;have RL:p.1∉ch:=λz=>(JF p.1 z).2.2.2 p hp rfl;exact⟨keep p.1 p.2 ne nf RL e n,free p.1 p.2 RL e n,ne,nf,d⟩
def Inv.un {t':Nat}(I:133)(u:Un X.fs [] H H' s.heap h')(cu:nh X.prog X.w H' h'):Inv X ag σ H' { s with heap:=h',toks:=t' }:=by
 obtain⟨m,⟨o,es,ep,ho,r⟩,_⟩:=id I.loc;obtain⟨sl,hL⟩:=u.any ho I.free 135;exact I.step (g':=s.gens) (d':=s.drawn) (ch:=[]) (λ_ z=>nomatch z) (λb o _ hb _ e n=>u.keep b o e n hb 135) (λb o _ hb _ e n=>u.slot b o e n hb 135) (λb o _ e n=>u.free b o e n 135) (λb o _ e=>u.there b o e 135) u.wL u.uD u.ur (λm' hm=>by
  obtain⟨o',xO,Zx,BG,r'⟩:=hm;rw [ho] at BG;cases BG;exact⟨_,xO,Zx,hL,r'⟩) cu I.bare
def Inv.call {g':Array GenState}{t':Nat}{d':Drawn}{ch:z0q}(I:133)(u:Un (EJ X.stack) ch H H' s.heap h')(cu:nh X.prog X.w H' h')(hg:AllBare g')
  (JF:∀b∈ch,(b∈X.ex\/X.s₀.heap.objs.size<=b)/\b≠X.env.locals/\(∀x c,X.env.cells.lookup x=some c->c≠b)/\∀p∈X.pn++ag,p.1≠b) :
  Inv X ag σ H' { s with heap:=h',gens:=g',drawn:=d',toks:=t' }:=by
 obtain⟨m,⟨o,es,ep,ho,r⟩,_⟩:=id I.loc;obtain⟨sl,hL⟩:=u.any ho I.free λz=>(JF _ z).2.1 rfl;exact I.step (ch:=ch) JF (λb o hL hb hc e n=>u.keep b o e n (λz=>(b8.mp (I.AB b z)).elim hL hb) hc) (λb o _ _ hc e n=>u.any e n hc) (λb o hc e n=>u.free b o e n hc) (λb o hc e=>u.there b o e hc) u.wL u.uD u.ur (λm' hm=>by
  obtain⟨o',xO,Zx,BG,r'⟩:=hm;rw [ho] at BG;cases BG;exact⟨_,xO,Zx,hL,r'⟩) cu hg
def Inv.turned {t':Nat}{it:Addr}(I:133)(k:∀b o,b≠it->158->h'.get? b=some o)(hn:H it=none)(hL:it≠X.env.locals)
  (h1:it∈X.ex\/X.s₀.heap.objs.size<=it)(h2:∀x c,X.env.cells.lookup x=some c->c≠it)(h3:∀p∈X.pn++ag,p.1≠it):Inv X ag σ H { s with heap:=h',toks:=t' }:=by
 have nit:∀b u,H b=some u->b≠it:=λb u e z=>by rw [z,hn] at e;cases e
 refine I.step (g':=s.gens) (d':=s.drawn) (ch:=[it]) (λb hb=>?_) (λb o _ _ hc e _=>k b o (λz=>hc (by simp [z])) e) (λb o _ _ hc e _=>⟨o.slots,k b o (λz=>hc (by simp [z])) e⟩) (λ_ _ _ _ n=>n)
  (λb o hc e=>⟨o,k b o (λz=>hc (by simp [z])) e⟩) (λ_ _ e=>e) (λ_ _ _ e=>e) (λb ps e=>⟨#[],by rw [e];simp⟩) (λm hm=>?_) (λb u e=>?_) I.bare
 .have e:b=it:=by simpa using hb
  subst e;exact⟨h1,hL,h2,h3⟩
 .obtain⟨o,es,ep,ho,r⟩:=hm;exact⟨o,es,ep,k _ o (d8 hL) ho,r⟩
 refine(I.cu b u e).kM (λc v hc q=>k c v ?_ q) (λ_ q=>q) λ_ _ q=>q;rcases hc with z | z
 .rw [z];exact nit b u e
 exact nit c _ z
def Inv.tok (I:133) (t:Nat):Inv X ag σ H { s with toks:=t }:=I.un (h':=s.heap) (t':=t) Un.refl I.cu
theorem Inv.kept {t':Nat}(I:133)(k:∀b u,s.heap.get? b=some u->h'.get? b=some u):Inv X ag σ H { s with heap:=h',toks:=t' }:=I.un (Un.kept k) (I.cu.kept k)
theorem Inv.laid {a:Addr}{o:HO}{t':Nat}(I:133)(k:∀b u,s.heap.get? b=some u->h'.get? b=some u)(hp:s.heap.objs.size<=a)(new:cP X.prog X.w (upd H a o) h' a o) :
  Inv X ag σ (upd H a o) { s with heap:=h',toks:=t' }:=I.un (Un.laid k hp (I.cu.fresh hp)) (I.cu.laid k hp new)
theorem Inv.write {x e:Addr}{o:HO}{t':Nat}(I:133)(mu:Uq (H x))(he:e=x\/H e=some (.own x))(k:∀b u,b≠e->s.heap.get? b=some u->h'.get? b=some u)(Qg:∃u,h'.get? e=some u)
  (new:cP X.prog X.w (upd H x o) h' x o):Inv X ag σ (upd H x o) { s with heap:=h',toks:=t' }:=I.un (Un.write mu he k Qg) (I.cu.write mu he k Qg new)
def Inv.CP {j6:z0e}(I:133)(h:∀p∈j6,s.heap.get? p.1=some p.2/\H p.1=none/\p.1≠X.env.locals/\p.1∉X.fs/\∀v,p.2.data≠.cell v):Inv X j6 σ H s :=
 ⟨I.ok,I.os,I.bare,I.base,I.loc,I.cell,I.free,I.me,λp hp=>(bO.mp hp).elim (λz=>I.pin p (eI _ z)) (h p),I.cu,I.len⟩
def yQ {N:z0t}(hN:N.Nodup){i j:Nat}{x:Str}(a:N[i]?=some x)(b:N[j]?=some x):i=j:=by
 obtain⟨h1,e1⟩:=bw.mp a;obtain⟨h2,e2⟩:=bw.mp b;exact(vY hN).mp (e1.trans e2.symm)
def uX {M:Model}{A:Around}{E:z0b}{i:Nat}{x:Str}{v:V}{u:Value}{Q:Unit->Shared->Prop}(I:133)(hN:X.N.Nodup)(hi:X.N[i]?=some x)(hx:Loc X.env.scope x)(r:RelV v u)
  (h:∀s',Inv X ag (σ.set i (some v)) H s'->(∃a,Heap.SameBut a s.heap s'.heap/\(a=X.env.locals\/X.env.cells.lookup x=some a))->Q () s')(hf:X.fn x=true\/X.env.scope.names.lookup x=some .local:=by first | exact .inl rfl | exact .inr rfl | assumption):wpAny M A (storeName X.env x u) Q E s:=by
 obtain⟨m,hn,hl⟩:=id I.loc;have YW:(X.env.scope.kind == .class || (X.env.scope.kind == .module && X.env.locals != X.env.globals))=false:=by rw [I.ok.kind];rfl
 have hiσ:i < σ.length:=by rw [I.len];exact(bw.mp hi).1
 have Pt:=I.Pt;have tracked:∀{a:Addr}{h':Heap},(∃o,s.heap.get? a=some o/\H a=none)->Heap.SameBut a s.heap h'->nh X.prog X.w H h':=λ{a h'} ha hs b ob e=>by
  obtain⟨_,_,n_⟩:=ha;refine(I.cu b ob e).kM (λc w' hc q=>(hs.2 c ?_).trans q) (λ_ q=>q) λ_ _ q=>q;rintro rfl;rcases hc with rfl | hc
  .rw [n_] at e;cases e
  rw [n_] at hc;cases hc
 rcases hx with hk | hk
 .refine wpAny_storeName_local hk hn (λh' C4 hs=>?_) YW;obtain⟨oL,_,_,Vi,_⟩:=id hn;refine h _ ⟨I.ok,I.os,I.bare,⟨λb o e n hb hx=>?_,λb o e n hb hx=>?_,I.base.free,λb o e hx=>?_,I.base.wL,I.base.uD,I.base.ur⟩,⟨_,C4,λj y v' e1 e2 e3=>?_⟩,λy c e=>?_,I.free,I.me,λp hp=>?_,tracked ⟨oL,Vi,I.free⟩ hs,by simpa using I.len⟩ ⟨_,hs,.inl rfl⟩
  .exact(hs.2 b (bU (gu (bC e) I.ok.above))).trans (I.base.keep b o e n hb hx)
  .obtain⟨sl,e1⟩:=I.base.slot b o e n hb hx;exact⟨sl,(hs.2 b (bU (gu (bC e) I.ok.above))).trans e1⟩
  .obtain⟨o',e1⟩:=I.base.there b o e hx;exact⟨o',(hs.2 b (bU (gu (bC e) I.ok.above))).trans e1⟩
  .by_cases hj:j=i
   .subst hj;rw [hi] at e1;cases e1;rw [List.getElem?_set_self hiσ] at e2;cases e2;exact⟨u,r,.inl ⟨hk,85⟩⟩
   rw [List.getElem?_set_ne (d8 hj)] at e2;obtain⟨u',r',q⟩:=hl j y v' e1 e2 e3;refine⟨u',r',?_⟩;rcases q with ⟨k,e⟩ | ⟨k,c,e,z⟩
   .refine .inl ⟨k,?_⟩;have:y≠x:=λe=>hj (yQ hN e1 (e ▸ hi));simp [this,e]
   exact .inr ⟨k,c,e,z.sameBut hs (Pt y c e)⟩
  .obtain⟨w',z⟩:=I.cell y c e;exact⟨w',z.sameBut hs (Pt y c e)⟩
  obtain⟨e,n,ne,nf,d⟩:=I.pin p hp;exact⟨(hs.2 p.1 ne).trans e,n,ne,nf,d⟩
 have YO:X.fn x=true:=by
  rcases hf with z | z
  .exact z
  rw [z] at hk;cases hk
 obtain⟨c,hc⟩:=I.ok.has x (.inl hk);obtain⟨w',z⟩:=I.cell x c hc;refine wpAny_storeName_cell I.ok.kind hk hc z (λh' mS hs=>?_);obtain⟨oc,Ab,Yz⟩:=id z;refine h { s with heap:=h' } ⟨I.ok,I.os,I.bare,⟨λb o e n hb hx=>?_,λb o e n hb hx=>?_,I.base.free,λb o e hx=>?_,I.base.wL,I.base.uD,I.base.ur⟩,⟨m,hn.sameBut hs (d8 (Pt x c hc)),λj y v' e1 e2 e3=>?_⟩,λy c' e=>?_,I.free,I.me,λp hp=>?_,tracked ⟨oc,Ab,I.me x c hc⟩ hs,by simpa using I.len⟩ ⟨c,hs,.inr hc⟩
 .exact(hs.2 b (bU (gu (bC e) (I.ok.T5 x c YO hc)))).trans (I.base.keep b o e n hb hx)
 .obtain⟨sl,e1⟩:=I.base.slot b o e n hb hx;exact⟨sl,(hs.2 b (bU (gu (bC e) (I.ok.T5 x c YO hc)))).trans e1⟩
 .obtain⟨o',e1⟩:=I.base.there b o e hx;exact⟨o',(hs.2 b (bU (gu (bC e) (I.ok.T5 x c YO hc)))).trans e1⟩
 .by_cases hj:j=i
  .subst hj;rw [hi] at e1;cases e1;rw [List.getElem?_set_self hiσ] at e2;cases e2;exact⟨u,r,.inr ⟨.inl hk,c,hc,mS⟩⟩
  rw [List.getElem?_set_ne (d8 hj)] at e2;obtain⟨u',r',q⟩:=hl j y v' e1 e2 e3;refine⟨u',r',?_⟩;rcases q with q | ⟨k,c',e,z'⟩
  .exact .inl q
  refine .inr ⟨k,c',e,z'.sameBut hs ?_⟩;rintro rfl;exact hj (yQ hN e1 (I.ok.inj _ _ _ e hc ▸ hi))
 .by_cases hcc:c'=c
  .subst hcc;exact⟨_,mS⟩
  obtain⟨w2,z2⟩:=I.cell y c' e;exact⟨w2,z2.sameBut hs hcc⟩
 obtain⟨e,n,ne,nf,d⟩:=I.pin p hp;refine⟨(hs.2 p.1 ?_).trans e,n,ne,nf,d⟩;intro q;rw [q,Ab] at e;have q':oc=p.2:=hJ e;exact d w' (by rw [<-q'];exact Yz)
def rS {M:Model}{A:Around}{E:z0b}{i:Nat}{x:Str}{v:V}{u:Value}{Q:Unit->Shared->Prop}(I:133)(hN:X.N.Nodup)(hi:X.N[i]?=some x)(hx:Loc X.env.scope x)(r:RelV v u)
  (h:∀s',Inv X ag (σ.set i (some v)) H s'->Q () s')(hf:X.fn x=true\/X.env.scope.names.lookup x=some .local:=by first | exact .inl rfl | exact .inr rfl | assumption):wpAny M A (storeName X.env x u) Q E s :=
 uX I hN hi hx r (λs' I' _=>h s' I') hf
def Inv.M5 {s':Shared}{ch:z0q}(I:133)(ho:s'.os=s.os)(u:Un (EJ X.stack) ch H H' s.heap s'.heap)(cu:nh X.prog X.w H' s'.heap)(hg:AllBare s'.gens)
  (JF:∀b∈ch,(b∈X.ex\/X.s₀.heap.objs.size<=b)/\b≠X.env.locals/\(∀x c,X.env.cells.lookup x=some c->c≠b)/\∀p∈X.pn++ag,p.1≠b):Inv X ag σ H' s':=by
 obtain⟨h',g',d',t',o'⟩:=s';have e:o'=s.os:=ho;subst e;exact I.call (g':=g') (t':=t') (d':=d') u cu hg JF
end
abbrev XK:=Value->z0m->Hp->Prop
abbrev St:=List (Option V)
abbrev aE (a:Addr):Option V:=some (.ref a)
abbrev VK:=V->Hp->Prop
abbrev TE:=St->Hp->VK->Prop
abbrev TT:=St->Hp->(Bool->Hp->Prop)->Prop
abbrev TA:=St->Hp->(List V->Hp->Prop)->Prop
structure Ends where
 nx:St->Hp->Prop
 rt:VK
 bk:St->Hp->Prop:=λ_ _=>False
 ct:St->Hp->Prop:=λ_ _=>False
abbrev TS:=Ends->St->Hp->Prop
def EP (X:Cx)(ag:z0e)(σ:St)(Q:VK)(u:Value)(s':Shared):Prop:=∃v H',Inv X ag σ H' s'/\RelV v u/\Q v H'
def TP (X:Cx)(ag:z0e)(σ:St)(Q:Bool->Hp->Prop)(b:Bool)(s':Shared):Prop:=∃H',Inv X ag σ H' s'/\Q b H'
def AP (X:Cx)(ag:z0e)(σ:St)(Q:List V->Hp->Prop)(us:z0n)(s':Shared):Prop:=∃vs H',Inv X ag σ H' s'/\bF vs us/\Q vs H'
def SP (X:Cx)(ag:z0e)(D:Ends)(f:Flow)(s':Shared):Prop :=
 match f with
 | .next=>∃σ' H',Inv X ag σ' H' s'/\D.nx σ' H'
 | .brk=>∃σ' H',Inv X ag σ' H' s'/\D.bk σ' H'
 | .cont=>∃σ' H',Inv X ag σ' H' s'/\D.ct σ' H'
 | .ret u=>∃v σ' H',Inv X ag σ' H' s'/\RelV v u/\D.rt v H'
def PE (X:Cx)(e:Expr)(t:TE):Prop :=
 ∀(ag:z0e)(s:Shared)(σ:St)(H:Hp)(Q:VK),133->t σ H Q->wpAny 145 X.A (eval e X.env) (EP X ag σ Q) X.xe s
def PT (X:Cx)(e:Expr)(t:TT):Prop :=
 ∀(ag:z0e)(s:Shared)(σ:St)(H:Hp)(Q:Bool->Hp->Prop),133->t σ H Q->wpAny 145 X.A (isTrue e X.env (eval e X.env)) (TP X ag σ Q) X.xe s
def PW (X:Cx)(e:Expr)(t:TT):Prop :=
 ∀(whole:Sem Value)(ag:z0e)(s:Shared)(σ:St)(H:Hp)(Q:Bool->Hp->Prop),133->t σ H Q->wpAny 145 X.A (isTrue e X.env whole) (TP X ag σ Q) X.xe s
def PW.pt {X:Cx}{e:Expr}{t:TT}(h:PW X e t):PT X e t:=h _
def PA (X:Cx)(es:z0r)(t:TA):Prop :=
 ∀(pos:Pos)(ag:z0e)(s:Shared)(σ:St)(H:Hp)(Q:List V->Hp->Prop),133->t σ H Q->wpAny 145 X.A (spliced (backTo pos (starEach es X.env))) (AP X ag σ Q) X.xe s
def PS (X:Cx)(st:Stmt)(t:TS):Prop :=
 ∀(ag:z0e)(s:Shared)(σ:St)(H:Hp)(D:Ends),133->t D σ H->wpAny 145 X.A (exec st X.env) (SP X ag D) X.xe s
def Cd (X:Cx)(st:List Stmt)(t:TS):Prop :=
 ∀(ag:z0e)(s:Shared)(σ:St)(H:Hp)(D:Ends),133->t D σ H->wpAny 145 X.A (execs st X.env) (SP X ag D) X.xe s
def dB {α:Type}{t:Sem α}{Q Q':α->Shared->Prop}{M:Model}{A:Around}{E:z0b}{s:Shared}(h:wpAny M A t Q E s)(hQ:∀a s,Q a s->Q' a s):wpAny M A t Q' E s:=dS h hQ λ_ _ x=>x
section
variable {X:Cx}
def bin {a b:Expr}{ta tb:TE}(ha:PE X a ta)(hb:PE X b tb){ag:z0e}{s:Shared}{σ:St}{H:Hp}{R:V->V->Hp->Prop}(I:133)(h:ta σ H λx H1=>tb σ H1 λy H2=>R x y H2)
  {α:Type}{Q:α->Shared->Prop}{f:Value->Value->Sem α}
  (hf:∀v u s2 x y H2,Inv X ag σ H2 s2->RelV x v->RelV y u->R x y H2->wpAny 145 X.A (f v u) Q X.xe s2) :
  wpAny 145 X.A (eval a X.env) (λv s₁=>wpAny 145 X.A (eval b X.env) (λu s₂=>wpAny 145 X.A (f v u) Q X.xe s₂) X.xe s₁) X.xe s:=by
 refine dB (ha ag s σ H _ I h) λv s1 bI=>?_;obtain⟨x,H1,I1,r1,q1⟩:=bI;refine dB (hb ag s1 σ H1 _ I1 q1) λu s2 bI=>?_;obtain⟨y,H2,I2,r2,q2⟩:=bI;exact hf v u s2 x y H2 I2 r1 r2 q2
inductive Ue (o:Option (Option V))(R:V->Prop):Prop
|mk(v:V)(e:o=some (some v))(q:R v)
inductive XB (x:V)(R:Bool->Prop):Prop
|mk(c:Bool)(e:x=.bl c)(q:R c)
inductive XI1 (x:V)(R:Int->Prop):Prop
|mk(i:Int)(e:x=.int i)(q:R i)
inductive XI0 (x y:V)(R:Int->Int->Prop):Prop
|mk(i j:Int)(e:x=.int i)(e2:y=.int j)(q:R i j)
inductive XI2 (x y:V)(C:Int->Int->Prop)(R:Int->Int->Prop):Prop
|mk(i j:Int)(e:x=.int i)(e2:y=.int j)(c:C i j)(q:R i j)
inductive M8 (vs:List V)(R:V->List V->Prop):Prop
|mk(v:V)(r:List V)(e:vs=v::r)(q:R v r)
inductive Ug (v:V)(S:Addr->List V->Prop) (n:Nat)(R:List V->Prop):Prop
|mk(a:Addr)(xs:List V)(e:v=.ref a)(s:S a xs)(l:xs.length=n)(q:R xs)
inductive V1 (x:V)(S:Addr->Prop)(R:Addr->Prop):Prop
|mk(a:Addr)(e:x=.ref a)(s:S a)(q:R a)
inductive XSq (x:V)(S:Addr->List V->Prop)(R:List V->Prop):Prop
|mk(a:Addr)(xs:List V)(e:x=.ref a)(s:S a xs)(q:R xs)
inductive XC2 (S:Addr->List V->Prop)(x y:V)(R:List V->List V->Prop):Prop
|mk(a b:Addr)(xs ys:List V)(e:x=.ref a)(e2:y=.ref b)(s:S a xs)(s2:S b ys)(z:xs.length+ys.length<=sizeLine)(q:R xs ys)
inductive XRg (vs:List V)(R:Int->Prop):Prop
|mk(j:Int)(e:vs=[.int j])(l:-(2 ^ 62)<=j)(u:j < 2 ^ 62)(q:R j)
inductive XEn (vs:List V)(S:Addr->List V->Prop)(R:Addr->Prop):Prop
|mk(a:Addr)(xs:List V)(e:vs=[.ref a])(s:S a xs)(q:R a)
inductive PD (xs:List V)(S:Addr->List V->Prop)(R:List V->Prop):Prop
|mk(p:Addr)(ys:List V)(e:xs=[.ref p])(s:S p ys)(q:R ys)
def gK (i:Nat):TE:=λσ H Q=>Ue σ[i]? λv=>Q v H
def tC (v:V):TE:=λ_ H Q=>Q v H
def N1 {i:Nat}{x:Str}{pos:Pos}(hN:X.N[i]?=some x)(hv:V2 X.env.scope x)(hd:(x == ("__debug__":Str))=false:=by decide)(yh:(x == ("__classdict__":Str))=false:=by decide):PE X (.Name x pos) (gK i):=by
 intro ag s σ H Q I h;obtain⟨v,e,h⟩:=h;obtain⟨m,hn,hl⟩:=I.loc;obtain⟨u,r,l⟩:=hl i x v hN e hv;have fin:EP X ag σ Q u s:=⟨v,H,I,r,h⟩;rcases l with ⟨hk,hm⟩ | ⟨hk,c,hc,jA⟩
 .exact wpAny_Name (wm I.ok.kind hk hn hm fin) hd
 rcases hk with hk | hk
 .exact wpAny_Name (wpAny_loadName_cell I.ok.kind hk hc jA fin) hd
 exact wpAny_Name (wpAny_loadName_free I.ok.kind hk hc jA fin yh) hd
def av {i j pos}:PE X (.Constant (.int i) j pos) (tC (.int i)):=λ_ _ _ H _ I h=>wpAny_Constant_int ⟨.int i,H,I.tok _,⟨_,rfl⟩,h⟩
def fq {b j pos}:PE X (.Constant (.bool b) j pos) (tC (.bl b)):=λ_ _ _ H _ I h=>Constant_bool ⟨.bl b,H,I,rfl,h⟩
def G5 {j pos}:PE X (.Constant .none j pos) (tC .d0):=λ_ _ _ H _ I h=>Constant_none ⟨.d0,H,I,rfl,h⟩
def cM {x j pos}:PE X (.Constant (.str x) j pos) (tC (.str x)):=λ_ _ _ H _ I h=>Calls.Constant_str ⟨.str x,H,I.tok _,⟨_,rfl⟩,h⟩
def Gl (X:Cx)(x:Str):Prop:=X.env.kindOf x=some .globalImplicit
def xF {E:z0b}{ag:z0e}{s:Shared}{σ:St}{H:Hp}{x:Str}{u:Value}{pos:Pos}{Q:z0b}(I:133)(hg:Gl X x)(hm:X.mg x=some u)(h:Q u s)
  (hd:(x == ("__debug__":Str))=false:=by decide):wpAny 145 X.A (eval (.Name x pos) X.env) Q E s :=
 Calls.Name_function_global I.ok.kind hg (Calls.loadGlobal_global (by rw [I.ok.glob];exact I.mod.glob.keeps I.bk) hm h) hd
def jR {E:z0b}{ag:z0e}{s:Shared}{σ:St}{H:Hp}{x:Str}{u:Value}{pos:Pos}{Q:z0b}(I:133)(hg:Gl X x)(hm:X.mg x=none)(hv:bootBuiltins x=some u)(h:Q u s)
  (hn:x ≠ "__name__" := by decide)(hd:(x == ("__debug__":Str))=false:=by decide):wpAny 145 X.A (eval (.Name x pos) X.env) Q E s:=by
 obtain⟨mb,h1,h2⟩:=I.mod.blt;exact Calls.Name_function_global I.ok.kind hg (Calls.loadGlobal_builtin (by rw [I.ok.glob];exact I.mod.glob.keeps I.bk) hm (by rw [I.ok.blt];exact h1.keeps I.bk) ((h2 x hn).trans hv) h) hd
def Kq {x:Str}{v:V}{u:Value}{pos:Pos}(hg:Gl X x)(hm:X.mg x=some u)(r:RelV v u)(hd:(x == ("__debug__":Str))=false:=by decide):PE X (.Name x pos) (tC v) :=
 λ_ _ _ H _ I h=>xF I hg hm ⟨v,H,I,r,h⟩ hd
def Kv {x:Str}{v:V}{u:Value}{pos:Pos}(hg:Gl X x)(hm:X.mg x=none)(hv:bootBuiltins x=some u)(r:RelV v u)(hn:x ≠ "__name__" := by decide)(hd:(x == ("__debug__":Str))=false:=by decide):PE X (.Name x pos) (tC v) :=
 λ_ _ _ H _ I h=>jR I hg hm hv ⟨v,H,I,r,h⟩ hn hd
variable {a b:Expr}{ta tb:TE}{pos:Pos}
def PC (X:Cx)(op:CmpOp)(a b:Expr)(t:TE):Prop :=
 ∀(ag:z0e)(s:Shared)(σ:St)(H:Hp)(Q:VK),133->t σ H Q ->
  wpAny 145 X.A (eval a X.env) (λv s₁=>wpAny 145 X.A (eval b X.env) (λu s₂=>wpAny 145 X.A (compareOp op v u) (EP X ag σ Q) X.xe s₂) X.xe s₁) X.xe s
def yR (b:Expr){op:CmpOp}(h:op≠.In)(h2:op≠.NotIn):behindInMarks op b=false:=by
 have e1:(op == CmpOp.In)=false:=by cases op <;> first | rfl | exact absurd rfl h
 have e2:(op == CmpOp.NotIn)=false:=by cases op <;> first | rfl | exact absurd rfl h2
 cases b <;> simp [behindInMarks,e1,e2]
def WB (ta:TE):TE:=λσ H Q=>ta σ H λx H1=>Q (.bl (decide (x=.d0))) H1
def RelV.HP {x:V}{v:Value}(r:RelV x v):(v == Value.none)=decide (x=.d0):=by
 cases x with
 | d0=>cases r;rfl
 | bl _=>cases r;rfl
 | int _=>obtain⟨t,rfl⟩:=r;rfl
 | str _=>obtain⟨t,rfl⟩:=r;rfl
 | B9 _=>obtain⟨t,rfl⟩:=r;rfl
 | Tj _=>obtain⟨t,rfl⟩:=r;rfl
 | ref _=>cases r;rfl
 | ty _=>cases r;rfl
def N3 {j pos'}(ha:PE X a ta):PC X .Is a (.Constant .none j pos') (WB ta):=by
 intro ag s σ H Q I h;refine dB (ha ag s σ H _ I h) λv s1 bI=>?_;obtain⟨x,H1,I1,r1,q1⟩:=bI;exact Constant_none (is_none_gen ⟨.bl _,H1,I1,by rw [r1.HP];rfl,q1⟩)
def tB (t:TE):TT:=λσ H Q=>t σ H λx H1=>XB x λc=>Q c H1
def xw {op:CmpOp}{t:TE}(h:PC X op a b t)(h1:behindInMarks op b=false:=by first | exact yR _ nofun nofun | rfl):PE X (.Compare a [op] [b] pos) t:=λag s σ H Q I hw=>wpAny_Compare1 (h ag s σ H Q I hw) h1
def fw {op:CmpOp}{t:TE}(h:PC X op a b t)(h1:behindInMarks op b=false:=by first | exact yR _ nofun nofun | rfl):PT X (.Compare a [op] [b] pos) (tB t):=by
 intro ag s σ H Q I hw;refine wpAny_isTrue_Compare1 (dB (h ag s σ H _ I hw) λv s1 h1=>dB h1 λu s2 h2=>dB h2 λc s3 bI=>?_) h1;obtain⟨x,H1,I1,r1,q1⟩:=bI;obtain⟨d,rfl,q⟩:=q1;cases r1;exact mC ⟨H1,I1,q⟩
def gS {e:Expr}{t:TE}(h:PE X e t)(he:∀whole,isTrue e X.env whole=(do let v <-whole;standAt e.pos;holding [v] (truthy v)):=by intro _;rfl):PT X e (tB t):=by
 intro ag s σ H Q I hw;refine isTrue_plain (dB (h ag s σ H _ I hw) λv s1 bI=>?_) (he _);obtain⟨x,H1,I1,r1,q1⟩:=bI;obtain⟨d,rfl,q⟩:=q1;cases r1;exact mC ⟨H1,I1,q⟩
variable {tA UL:TT}{rest:z0r}
def WH (t u:TT):TT:=λσ H Q=>t σ H λc H1=>if c=true then u σ H1 Q else Q false H1
def tOr (t u:TT):TT:=λσ H Q=>t σ H λc H1=>if c=true then Q true H1 else u σ H1 Q
def Wz (t:TT):TT:=λσ H Q=>t σ H λc H1=>Q (!c) H1
def jO (ha:PT X a tA):PW X (.BoolOp .And [a] pos) tA:=by
 intro wh ag s σ H Q I h;refine isTrue_and (dB (ha ag s σ H Q I h) λc s1 e=>?_);cases c with
 | true=>exact isTrue_and_nil e
 | false=>exact e
def GK (ha:PT X a tA):PW X (.BoolOp .Or [a] pos) tA:=by
 intro wh ag s σ H Q I h;refine isTrue_or (dB (ha ag s σ H Q I h) λc s1 e=>?_);cases c with
 | false=>exact isTrue_or_nil e
 | true=>exact e
def mH (ha:PT X a tA)(hb:PW X (.BoolOp .And (b::rest) pos) UL):PW X (.BoolOp .And (a::b::rest) pos) (WH tA UL):=by
 intro wh ag s σ H Q I h;refine isTrue_and (dB (ha ag s σ H _ I h) λc s1 bI=>?_);obtain⟨H1,I1,q1⟩:=bI;cases c with
 | true=>exact hb wh ag s1 σ H1 Q I1 q1
 | false=>exact⟨H1,I1,q1⟩
def GO (ha:PT X a tA)(hb:PW X (.BoolOp .Or (b::rest) pos) UL):PW X (.BoolOp .Or (a::b::rest) pos) (tOr tA UL):=by
 intro wh ag s σ H Q I h;refine isTrue_or (dB (ha ag s σ H _ I h) λc s1 bI=>?_);obtain⟨H1,I1,q1⟩:=bI;cases c with
 | true=>exact⟨H1,I1,q1⟩
 | false=>exact hb wh ag s1 σ H1 Q I1 q1
def GU (ha:PT X a tA):PT X (.UnaryOp .Not a pos) (Wz tA):=by
 intro ag s σ H Q I h;exact isTrue_not (ha ag s σ H (λc H1=>Q (!c) H1) I h)
def Q6 (ta tb:TE):TE:=λσ H Q=>ta σ H λx H1=>XB x λc=>if c=true then tb σ H1 Q else Q (.bl false) H1
def Wy (ta tb:TE):TE:=λσ H Q=>ta σ H λx H1=>XB x λc=>if c=true then Q (.bl true) H1 else tb σ H1 Q
def o8 {op}{t:TE}(h:PE X a t):PE X (.BoolOp op [a] pos) t:=λag s σ H Q I hw=>BoolOp_one (h ag s σ H Q I hw)
def sH (ha:PE X a ta)(hb:PE X (.BoolOp .And (b::rest) pos) tb):PE X (.BoolOp .And (a::b::rest) pos) (Q6 ta tb):=by
 intro ag s σ H Q I h;refine BoolOp_and (dB (ha ag s σ H _ I h) λv s1 bI=>?_);obtain⟨x,H1,I1,r1,q1⟩:=bI;obtain⟨c,rfl,q1⟩:=q1;cases r1;refine mC ?_;cases c with
 | true=>exact hb ag s1 σ H1 Q I1 q1
 | false=>exact⟨.bl false,H1,I1,rfl,q1⟩
def Ml (ha:PE X a ta)(hb:PE X (.BoolOp .Or (b::rest) pos) tb):PE X (.BoolOp .Or (a::b::rest) pos) (Wy ta tb):=by
 intro ag s σ H Q I h;refine BoolOp_or (dB (ha ag s σ H _ I h) λv s1 bI=>?_);obtain⟨x,H1,I1,r1,q1⟩:=bI;obtain⟨c,rfl,q1⟩:=q1;cases r1;refine mC ?_;cases c with
 | false=>exact hb ag s1 σ H1 Q I1 q1
 | true=>exact⟨.bl true,H1,I1,rfl,q1⟩
def tIf (t:TT)(ta tb:TE):TE:=λσ H Q=>t σ H λc H1=>if c=true then ta σ H1 Q else tb σ H1 Q
def kP {c:Expr}(hc:PT X c tA)(ha:PE X a ta)(hb:PE X b tb):PE X (.IfExp c a b pos) (tIf tA ta tb):=by
 intro ag s σ H Q I h;refine wpAny_IfExp (dB (hc ag s σ H _ I h) λd s1 bI=>?_);obtain⟨H1,I1,q1⟩:=bI;cases d with
 | true=>exact ha ag s1 σ H1 Q I1 q1
 | false=>exact hb ag s1 σ H1 Q I1 q1
end
def aI (K:bp)(H:Hp)(a:Addr)(xs:List V):Prop :=
 Rd H a (.lst xs) \/
  ∃(o:Obj)(aT:z0l) (n:Nat),K.lookup a=some o/\o.cls=.type "list" /\ o.dict=none/\o.data=.seq aT n/\aT.size<=sizeLine/\bF xs aT.toList
def aY (K:bp)(H:Hp)(a:Addr)(xs:List V):Prop :=
 Rd H a (.tup xs) \/
  ∃(o:Obj)(aT:z0l) (n:Nat),K.lookup a=some o/\o.cls=.type "tuple" /\ o.data=.seq aT n/\aT.size<=sizeLine/\bF xs aT.toList
def aap:Value->Option V
 | .none=>some .d0
 | .bool b=>some (.bl b)
 | .int i _=>some (.int i)
 | .str x _=>some (.str x)
 | .bytes b _=>some (.B9 b)
 | .float b _=>some (.Tj b)
 | .ref a=>some (.ref a)
 | .type n=>some (.ty n)
 | _=>none
def RelV.abs {x:V}{u:Value}(r:RelV x u):aap u=some x:=by
 cases x with
 | d0=>cases r;rfl
 | bl _=>cases r;rfl
 | int _=>obtain⟨t,rfl⟩:=r;rfl
 | str _=>obtain⟨t,rfl⟩:=r;rfl
 | B9 _=>obtain⟨t,rfl⟩:=r;rfl
 | Tj _=>obtain⟨t,rfl⟩:=r;rfl
 | ref _=>cases r;rfl
 | ty _=>cases r;rfl
def RelV.inj {x y:V}{u:Value}(r:RelV x u)(q:RelV y u):x=y:=hJ (r.abs.symm.trans q.abs)
theorem bF.inj {xs ys:List V}{us:z0n}(h:bF xs us)(g:bF ys us):xs=ys:=by
 induction h generalizing ys with
 | nil=>cases g;rfl
 | cons r t ih=>cases g with | cons r' t'=>rw [r.inj r',ih t']
section
variable {X:Cx}{ag:z0e}{σ:St}{H:Hp}{s:Shared}{a:Addr}{xs ys:List V}
def aI.of {K:bp}(h:H a=some (.lst xs)):aI K H a xs:=.inl (.inl h)
def aY.of {K:bp}(h:H a=some (.tup xs)):aY K H a xs:=.inl (.inl h)
def Inv.list (I:133)(h:aI X.K H a xs):∃aT:z0n,bF xs aT/\PlainL s.heap a aT.toArray/\xs.length<=sizeLine:=by
 rcases h with h | ⟨o,aT,n,hk,hc,hd,hs,hz,r⟩
 .obtain⟨z,aT,n,r,e⟩:=h.ok I.cu;exact⟨aT,r,⟨_,n,e,rfl,rfl,rfl⟩,z⟩
 refine⟨aT.toList,r,⟨o,n,I.yY a o hk,hc,hd,by simpa using hs⟩,?_⟩;have e:=r.length;simp only [qW] at e;omega
def Inv.tuple (I:133)(h:aY X.K H a xs):∃aT:z0n,bF xs aT/\IsTup s.heap a aT.toArray/\xs.length<=sizeLine:=by
 rcases h with h | ⟨o,aT,n,hk,hc,hs,hz,r⟩
 .obtain⟨z,aT,r,p⟩:=h.ok I.cu;exact⟨aT,r,p,z⟩
 refine⟨aT.toList,r,⟨o,I.yY a o hk,hc,n,by simpa using hs⟩,?_⟩;have e:=r.length;simp only [qW] at e;omega
def Inv.sS (I:133)(h:aI X.K H a xs)(h':aI X.K H a ys):xs=ys:=by
 obtain⟨aT,r,⟨o,n,e,_,_,d⟩,_⟩:=I.list h;obtain⟨uy,r',⟨o',n',e',_,_,d'⟩,_⟩:=I.list h';rw [e] at e';cases e';rw [d] at d';injection d' with d1 _;have:aT=uy:=by simpa using congrArg Array.toList d1
 subst this;exact r.inj r'
def Inv.jm (I:133)(h:aY X.K H a xs)(h':aY X.K H a ys):xs=ys:=by
 obtain⟨aT,r,⟨o,e,_,n,d⟩,_⟩:=I.tuple h;obtain⟨uy,r',⟨o',e',_,n',d'⟩,_⟩:=I.tuple h';rw [e] at e';cases e';rw [d] at d';injection d' with d1 _;have:aT=uy:=by simpa using congrArg Array.toList d1
 subst this;exact r.inj r'
end
abbrev Cx.uq (X:Cx)(E:z0b):Cx:={ X with xe:=E }
abbrev Cx.KP (X:Cx):Cx:=X.uq λ_ _=>False
theorem Cx.Ok.uq {X:Cx}(ok:X.Ok)(E:z0b):(X.uq E).Ok :=
 ⟨ok.mod,ok.kind,ok.glob,ok.blt,ok.above,ok.inj,ok.has,ok.T5,ok.hd,ok.frames,ok.UO,ok.Qn,ok.bs,ok.LI,ok.HQ,ok.EL,ok.qv,ok.OY⟩
def Cx.Ok.ky {X:Cx}{E:z0b}(ok:(X.uq E).Ok):X.Ok :=
 ⟨ok.mod,ok.kind,ok.glob,ok.blt,ok.above,ok.inj,ok.has,ok.T5,ok.hd,ok.frames,ok.UO,ok.Qn,ok.bs,ok.LI,ok.HQ,ok.EL,ok.qv,ok.OY⟩
section
variable {X:Cx}{ag:z0e}{σ:St}{H:Hp}{s:Shared}{E:z0b}
theorem Inv.uq (I:133)(E:z0b):Inv (X.uq E) ag σ H s:=⟨I.ok.uq E,I.os,I.bare,I.base,I.loc,I.cell,I.free,I.me,I.pin,I.cu,I.len⟩
theorem Inv.ky (I:Inv (X.uq E) ag σ H s):133:=⟨I.ok.ky,I.os,I.bare,I.base,I.loc,I.cell,I.free,I.me,I.pin,I.cu,I.len⟩
theorem SP.ky {D:Ends}{f:Flow}{s':Shared}(h:SP (X.uq E) ag D f s'):SP X ag D f s':=by
 cases f with
 | next=>obtain⟨σ',H',I,q⟩:=h;exact⟨σ',H',I.ky,q⟩
 | brk=>obtain⟨σ',H',I,q⟩:=h;exact⟨σ',H',I.ky,q⟩
 | cont=>obtain⟨σ',H',I,q⟩:=h;exact⟨σ',H',I.ky,q⟩
 | ret u=>obtain⟨v,σ',H',I,r,q⟩:=h;exact⟨v,σ',H',I.ky,r,q⟩
theorem Cd.KP {st:List Stmt}{t:TS}(h:Cd X.KP st t):Cd X st t:=λag s σ H D I hw =>
 dS (h ag s σ H D (I.uq _) hw) (λ_ _ q=>q.ky) λ_ _ z=>False.elim z
end
section
variable {X:Cx}{st:Stmt}{rest:List Stmt}{t u:TS}{e:Expr}{te:TE}{pos:Pos}
def QT:TS:=λD σ H=>D.nx σ H
def Nn (t u:TS):TS:=λD σ H=>t { D with nx:=u D } σ H
def a7:Cd X [] QT:=λ_ _ σ H _ I h=>wpAny_execs_nil ⟨σ,H,I,h⟩
def ai (h1:PS X st t)(h2:Cd X rest u):Cd X (st::rest) (Nn t u):=by
 intro ag s σ H D I h;refine wpAny_execs_cons (dB (h1 ag s σ H { D with nx:=u D } I h) λf s1 q=>?_);cases f with
 | next =>
  obtain⟨σ',H',I',q⟩:=q;exact h2 ag s1 σ' H' D I' q
 | ret v=>exact q
 | brk=>exact q
 | cont=>exact q
def ao (h1:PS X st t):Cd X [st] t:=by
 intro ag s σ H D I h;refine wpAny_execs_cons (dB (h1 ag s σ H D I h) λf s1 q=>?_);cases f with
 | next=>exact wpAny_execs_nil q
 | ret v=>exact q
 | brk=>exact q
 | cont=>exact q
def Nt:TS:=λD σ H=>D.bk σ H
def GX:PS X (.Break pos) Nt:=λ_ _ σ H _ I h=>wpAny_Break ⟨σ,H,I,h⟩
def Inv.quiet {ag:z0e}{σ:St}{H:Hp}{s:Shared}(I:133):interactive X.env=false:=by simp [interactive,I.ok.kind]
def QZ (te:TE):TS:=λD σ H=>te σ H λ_ H1=>D.nx σ H1
def cT (he:PE X e te)(hs:swapsWith e none pos.line X.env=pure false:=by rfl):PS X (.Expr e pos) (QZ te):=by
 intro ag s σ H D I h;refine wpAny_Expr_any (dB (he ag s σ H _ I h) λv s1 bI=>?_) I.quiet hs;obtain⟨x,H1,I1,r1,q1⟩:=bI;exact⟨σ,H1,I1,q1⟩
def Wx (te:TE):TS:=λD σ H=>te σ H D.rt
def br (he:PE X e te):PS X (.Return (some e) pos) (Wx te):=by
 intro ag s σ H D I h;refine wpAny_Return_some (dB (he ag s σ H _ I h) λv s1 bI=>?_);obtain⟨x,H1,I1,r1,q1⟩:=bI;exact⟨x,σ,H1,I1,r1,q1⟩
def WC (c:TT)(t u:TS):TS:=λD σ H=>c σ H λb H1=>if b=true then t D σ H1 else u D σ H1
def cq {c:Expr}{a b:List Stmt}{tc:TT}(hc:PT X c tc)(ha:Cd X a t)(hb:Cd X b u):PS X (.If c a b pos) (WC tc t u):=by
 intro ag s σ H D I h;refine wpAny_If (dB (hc ag s σ H _ I h) λd s1 bI=>?_);obtain⟨H1,I1,q1⟩:=bI;cases d with
 | true=>exact ha ag s1 σ H1 D I1 q1
 | false=>exact hb ag s1 σ H1 D I1 q1
def Np:TS:=λ_ _ _=>False
def iO:PS X st Np:=λ_ _ _ _ _ _ h=>h.elim
end
abbrev TG:=V->St->Hp->(St->Hp->Prop)->Prop
abbrev M9:=List V->St->Hp->(St->Hp->Prop)->Prop
def PG (X:Cx)(target:Expr)(t:TG):Prop :=
 ∀(ag:z0e)(s:Shared)(σ:St)(H:Hp)(v:V)(u:Value)(Q:St->Hp->Prop),133->RelV v u->t v σ H Q ->
  wpAny 145 X.A (assign target X.env u) (λ_ s'=>∃σ' H',Inv X ag σ' H' s'/\Q σ' H') X.xe s
def Uo (X:Cx)(ts:z0r)(t:M9):Prop :=
 ∀(ag:z0e)(s:Shared)(σ:St)(H:Hp)(vs:List V)(us:z0n)(Q:St->Hp->Prop),133->bF vs us->t vs σ H Q ->
  wpAny 145 X.A (assignInOrder ((assignEach ts X.env).map (·.2)) us) (λ_ s'=>∃σ' H',Inv X ag σ' H' s'/\Q σ' H') X.xe s
abbrev V3:=V->V->Hp->VK->Prop
def PIp (X:Cx)(op:Operator)(t:V3):Prop :=
 ∀(ag:z0e)(s:Shared)(σ:St)(H:Hp)(x y:V)(v u:Value)(Q:VK),133->RelV x v->RelV y u->t x y H Q ->
  wpAny 145 X.A (inplaceOp op v u) (EP X ag σ Q) X.xe s
section
variable {X:Cx}{pos:Pos}
def dD (i:Nat):TG:=λv σ H Q=>Q (σ.set i (some v)) H
def aq {i:Nat}{x:Str}(hN:X.N.Nodup)(hi:X.N[i]?=some x)(hx:Loc X.env.scope x)(hf:X.fn x=true\/X.env.scope.names.lookup x=some .local:=by first | exact .inl rfl | exact .inr rfl | assumption):PG X (.Name x pos) (dD i):=by
 intro ag s σ H v u Q I r h;exact wpAny_assign_Name (rS I hN hi hx r (λs' I'=>⟨_,H,I',h⟩) hf)
def BN:M9:=λvs σ H Q=>vs=[]/\Q σ H
def iT (t:TG)(u:M9):M9:=λvs σ H Q=>M8 vs λv r=>t v σ H λσ' H'=>u r σ' H' Q
def bH:Uo X [] BN:=by
 intro ag s σ H vs us Q I r h;obtain⟨e,h⟩:=h;subst e;cases r;exact assignInOrder_nil ⟨σ,H,I,h⟩
def aB {e:Expr}{es:z0r}{t:TG}{u:M9}(h1:PG X e t)(h2:Uo X es u)
  (hs:(assignEach (e::es) X.env).map (·.2)=assign e X.env::(assignEach es X.env).map (·.2):=by rfl):Uo X (e::es) (iT t u):=by
 intro ag s σ H vs us Q I r h;obtain⟨v,vr,e1,h⟩:=h;subst e1;cases r with
 | cons r rr =>
  rw [hs];refine assignInOrder_cons (dB (h1 ag s σ H _ _ _ I r h) λ_ s1 bI=>?_);obtain⟨σ1,H1,I1,q1⟩:=bI;exact h2 ag s1 σ1 H1 _ _ Q I1 rr q1
def zq (K:bp) (n:Nat)(t:M9):TG:=λv σ H Q=>Ug v (aY K H) n λxs=>t xs σ H Q
def gq {es:z0r}{k:Nat}{t:M9}{n:Nat}(hc:X.calm=true)(h:Uo X es t)
  (hn:(assignEach es X.env).length=n:=by rfl)(yg:(assignEach es X.env).findIdx? 82=none:=by rfl):PG X (.Tuple es k pos) (zq X.K n t):=by
 intro ag s σ H v u Q I r hw;obtain⟨a,xs,e1,hq,hl,hw⟩:=hw;subst e1;cases r;obtain⟨aT,rv,ht,hz⟩:=I.tuple hq;refine assign_Tuple_tuple (I.ok.hd hc) ht (by simp [hn,<-hl,rv.length]) yg λh' hx=>?_;have I1:Inv X ag σ H { s with heap:=h' }:=I.kept (t':=s.toks) λb o e=>hx b o (bU (bC e)) e;exact h ag _ σ H xs _ Q I1 (by simpa using rv) hw
def Q5 (te:TE)(g:TG):TS:=λD σ H=>te σ H λx H1=>g x σ H1 D.nx
def az {i:Nat}{x:Str}{e:Expr}{te:TE}{pos':Pos}(hN:X.N.Nodup)(hi:X.N[i]?=some x)(hx:Loc X.env.scope x)(he:PE X e te)(hs:swapsWith e (some (.Name x pos')) pos.line X.env=pure false:=by rfl)(hf:X.fn x=true\/X.env.scope.names.lookup x=some .local:=by first | exact .inl rfl | exact .inr rfl | assumption) :
  PS X (.Assign [.Name x pos'] e pos) (Q5 te (dD i)):=by
 intro ag s σ H D I h;refine wpAny_Assign_Name (dB (he ag s σ H _ I h) λv s1 bI=>?_) hs;obtain⟨y,H1,I1,r1,q1⟩:=bI;exact rS I1 hN hi hx r1 (λs2 I2=>⟨_,H1,I2,q1⟩) hf
def WG (i:Nat)(te:TE)(ti:V3):TS:=λD σ H=>∃x,σ[i]?=some (some x)/\te σ H λy H1=>ti x y H1 λz H2=>D.nx (σ.set i (some z)) H2
def N0 {i:Nat}{x:Str}{e:Expr}{te:TE}{op:Operator}{ti:V3}{pos':Pos}(hN:X.N.Nodup)(hi:X.N[i]?=some x)(hx:Loc X.env.scope x)(he:PE X e te)(ho:PIp X op ti)(hf:X.fn x=true\/X.env.scope.names.lookup x=some .local:=by first | exact .inl rfl | exact .inr rfl | assumption) :
  PS X (.AugAssign (.Name x pos') op e pos) (WG i te ti):=by
 intro ag s σ H D I h;obtain⟨v,e1,h⟩:=h;obtain⟨m,hn,hl⟩:=I.loc;have vis:V2 X.env.scope x:=by rcases hx with k | k;exact .inl k;exact .inr (.inl k)
 obtain⟨u,r,l⟩:=hl i x v hi e1 vis;refine wpAny_AugAssign_Name ?_;have go:wpAny 145 X.A (eval e X.env) (λw s₂=>wpAny 145 X.A (inplaceOp op u w) (λr s₃=>wpAny 145 X.A (storeName X.env x r) (λ_=>SP X ag D .next) X.xe s₃) X.xe s₂) X.xe s:=by
  refine dB (he ag s σ H _ I h) λw s1 bI=>?_;obtain⟨y,H1,I1,r1,q1⟩:=bI;refine dB (ho ag s1 σ H1 v y u w _ I1 r r1 q1) λz s2 bI=>?_;obtain⟨zv,H2,I2,r2,q2⟩:=bI;exact rS I2 hN hi hx r2 (λs3 I3=>⟨_,H2,I3,q2⟩) hf
 rcases l with ⟨hk,hm⟩ | ⟨hk,c,hc,jA⟩
 .exact wm I.ok.kind hk hn hm go
 rcases hk with hk | hk
 .exact wpAny_loadName_cell I.ok.kind hk hc jA go
 rcases hx with k | k
 .have:X.env.scope.names.lookup x=some .free:=hk;rw [k] at this;cases this
 have:X.env.scope.names.lookup x=some .free:=hk;rw [k] at this;cases this
def ipI (f:Int->Int->Int):V3:=λx y H Q=>∃i j,x=.int i/\y=.int j/\Q (.int (f i j)) H
def Ox:PIp X .Add (ipI λi j=>i+j):=by
 intro ag s σ H x y v u Q I r1 r2 h;obtain⟨i,j,e1,e2,q⟩:=h;subst e1;subst e2;obtain⟨t,rfl⟩:=r1;obtain⟨t',rfl⟩:=r2;exact iadd_int ⟨.int _,H,I.tok _,⟨_,rfl⟩,q⟩
end
section
variable {X:Cx}{pos:Pos}
def Nl (c:TT)(tb:TS):TS:=λD σ H=>∃W:Nat->St->Hp->Prop,(∃m,W m σ H)/\∀m σ H,W m σ H ->
 c σ H λb H1=>if b=true then ∃N:St->Hp->Prop,(∀σ' H',N σ' H'->∃m',m' < m/\W m' σ' H')/\tb { D with nx:=N,ct:=N,bk:=D.nx } σ H1 else D.nx σ H1
def ip {c:Expr}{body:List Stmt}{tc:TT}{tb:TS}(hp:PassesOwn 145 X.A X.env X.xe)(hc:PT X c tc)(hb:Cd X body tb):PS X (.While c body [] pos) (Nl tc tb):=by
 intro ag s σ H D I h;obtain⟨W,⟨m0,w0⟩,turn⟩:=h;refine wpAny_While (codeAny_whileLoop (λn s'=>∃σ' H',Inv X ag σ' H' s'/\W n σ' H') ?_ m0 ⟨σ,H,I,w0⟩);rintro n s1 ⟨σ1,H1,I1,w1⟩;refine mr hp (dB (hc ag s1 σ1 H1 _ I1 (turn n σ1 H1 w1)) λb s2 bI=>?_);obtain⟨H2,I2,q2⟩:=bI;cases b with
 | true =>
  obtain⟨N,hN,q2⟩:=q2;rw [aw rfl];refine mr hp (dB (hb ag s2 σ1 H2 _ I2 q2) λf s3 q3=>?_);cases f with
  | next =>
   obtain⟨σ3,H3,I3,n3⟩:=q3;obtain⟨m',hm,w3⟩:=hN σ3 H3 n3;exact⟨m',hm,σ3,H3,I3,w3⟩
  | cont =>
   obtain⟨σ3,H3,I3,n3⟩:=q3;obtain⟨m',hm,w3⟩:=hN σ3 H3 n3;exact⟨m',hm,σ3,H3,I3,w3⟩
  | brk=>exact q3
  | ret v=>exact q3
 | false =>
  rw [ar cQ];exact wpAny_execs_nil ⟨σ1,H2,I2,q2⟩
end
structure It where
 go:Nat->Hp->Prop
 lS:Nat->Hp->V->Hp->Prop
 stop:Nat->Hp->Prop
def ye (X:Cx)(ag:z0e)(H:Hp)(b:Addr):Prop :=
 H b=none/\b≠X.env.locals/\b∉X.fs/\(b∈X.ex\/X.s₀.heap.objs.size<=b)/\(∀x c,X.env.cells.lookup x=some c->c≠b)/\∀p∈X.pn++ag,p.1≠b
def Inv.xK {X:Cx}{ag:z0e}{σ:St}{H H':Hp}{s:Shared}{b:Addr}(I:133)(hb:s.heap.objs.size<=b)(hn:H' b=none):ye X ag H' b:=by
 refine⟨hn,lN (gu I.lt hb),I.Xn hb,.inr (gr I.sz hb),λx c e z=>?_,λp hp z=>?_⟩
 .obtain⟨v,q⟩:=I.cell x c e;exact absurd (gu q.lt (by rw [z];exact hb)) (lP _)
 exact absurd (gu (bC (I.pin p hp).1) (by rw [z];exact hb)) (lP _)
structure Turn (P:Program)(w:World)(K:bp)(tg:Expr)(J:It)(fp:z0q)(it:Addr)(tn:Nat->Heap->Prop):Prop where
 mem:it∈fp
 obj:∀i h,tn i h->∀b∈fp,∃o,h.get? b=some o/\∀v,o.data≠.cell v
 keep:∀i h h',tn i h->(∀b∈fp,∀o,h.get? b=some o->h'.get? b=some o)->tn i h'
 item:∀(X:Cx),X.prog=P->X.w=w->X.K=K->X.calm=true->∀(i:Nat)(ag:z0e)(s:Shared)(σ:St)(H:Hp)(E:z0b),133->(∀b∈fp,ye X ag H b)->tn i s.heap->J.go i H ->
  wpAny (model P w) X.A (pyNext (.ref it)) (λr s1=>∃u,r=some u /\
   wpAny (model P w) X.A (letOwnedTupleGo tg (.ref it) u) (λ_ s2=>∃x H',Inv X ag σ H' s2/\RelV x u/\J.lS i H x H'/\tn (i+1) s2.heap/\∀b∈fp,H' b=none) E s1) E s
 done:∀(X:Cx),X.prog=P->X.w=w->X.K=K->X.calm=true->∀(i:Nat)(ag:z0e)(s:Shared)(σ:St)(H:Hp)(E:z0b),133->(∀b∈fp,ye X ag H b)->tn i s.heap->J.stop i H ->
  wpAny (model P w) X.A (pyNext (.ref it)) (λr s1=>r=none/\Inv X ag σ H s1) E s
 self:∀(A:Around) (i:Nat)(s:Shared)(Q:z0b)(E:z0b),tn i s.heap->Q (.ref it) s->wpAny (model P w) A (pyIter (.ref it)) Q E s
abbrev TI:=St->Hp->(It->Hp->Prop)->Prop
def PIE (X:Cx)(ag:z0e)(σ:St)(tg:Expr)(R:It->Hp->Prop)(Va:Value)(s2:Shared):Prop :=
 ∃(it:Addr)(fp:z0q)(tn:Nat->Heap->Prop)(J:It)(H':Hp),Va=.ref it/\Inv X ag σ H' s2/\Turn X.prog X.w X.K tg J fp it tn/\tn 0 s2.heap/\(∀b∈fp,ye X ag H' b)/\R J H'
def PI (X:Cx)(tg iter:Expr)(wi:TI):Prop :=
 ∀(ag:z0e)(s:Shared)(σ:St)(H:Hp)(R:It->Hp->Prop),133->wi σ H R ->
  wpAny 145 X.A (eval iter X.env) (λv s1=>wpAny 145 X.A (pyIter v) (PIE X ag σ tg R) X.xe s1) X.xe s
def C_ {M:Model}{A:Around}{E:z0b}{s:Shared}{tg:Expr}{it:Addr}{u:Value}{o:Obj}{n:String}{vs:z0l}{Q:Unit->Shared->Prop}(ho:s.heap.get? it=some o)(hc:o.cls=.type n)(hd:o.data=.fields vs)
  (hn:["enumerate","zip","dict_itemiterator","dict_reverseitemiterator","odict_iterator","itertools.zip_longest","itertools.pairwise"].contains n=false)(hQ:Q () s):wpAny M A (letOwnedTupleGo tg (.ref it) u) Q E s:=by
 unfold letOwnedTupleGo;cases tg <;> first
  | exact aH hQ
  | (cases u <;> first
    | exact aH hQ
    | (refine aA (wpAny_load ho ?_)
       rw [hc,hd];show wpAny M A (if (["enumerate","zip","dict_itemiterator","dict_reverseitemiterator","odict_iterator","itertools.zip_longest","itertools.pairwise"].contains n && vs[0]? == some (rawInt _))=true then _ else _) Q E s;rw [ar (by intro h;rw [hn,q_] at h;cases h)];exact aH hQ))
def jG (K:bp)(a:Addr):It :=
 ⟨λi H=>∃xs x,aI K H a xs/\xs[i]?=some x,λi H x H'=>H'=H/\∀xs,aI K H a xs->xs[i]?=some x,λi H=>∃xs,aI K H a xs/\xs.length<=i⟩
def oy (K:bp)(a:Addr):It :=
 ⟨λi H=>∃xs x,aY K H a xs/\xs[i]?=some x,λi H x H'=>H'=H/\∀xs,aY K H a xs->xs[i]?=some x,λi H=>∃xs,aY K H a xs/\xs.length<=i⟩
def LV (lo:Int) (n:Nat):It:=⟨λi _=>i < n,λi H x H'=>H'=H/\x=.int (lo+i),λi _=>n<=i⟩
def DE {P:Program}{w:World}{K:bp}{tg:Expr}(a it:Addr):Turn P w K tg (jG K a) [it] it (λi h=>h.IsListIter it a i) where
 mem:=85
 obj:=λi h st b hb=>by
  have e:b=it:=by simpa using hb
  subst e;obtain⟨o,e,c,d⟩:=st;exact⟨o,e,λv z=>by rw [d] at z;cases z⟩
 keep:=λi h h' st k=>st.at λo e=>k it 135 o e
 item:=by
  intro X hP hw hK hc i ag s σ H E I hf st hg;subst hP hw hK;obtain⟨xs,x,hq,hx⟩:=hg;obtain⟨aT,rv,p,hz⟩:=I.list hq;obtain⟨u,hu,ru⟩:=rv.get hx;obtain⟨f0,f1,f2,f3,f4,f5⟩:=hf it 135;refine wpAny_pyNext_list_item st p.isList (x:=u) (by simpa using hu) λh' uZ sb=>?_;have I1:Inv X ag σ H { s with heap:=h' }:=I.turned (t':=s.toks) (λb o hb e=>(sb.2 b hb).trans e) f0 f1 f3 f4 f5;obtain⟨o,e,c,d⟩:=id uZ;exact⟨u,rfl,C_ (s:={ s with heap:=h' }) e c d nofun ⟨x,H,I1,ru,⟨rfl,λys hy=>by rw [I.sS hy hq];exact hx⟩,uZ,λb hb=>(hf b hb).1⟩⟩
 done:=by
  intro X hP hw hK hc i ag s σ H E I hf st hg;subst hP hw hK;obtain⟨xs,hq,hx⟩:=hg;obtain⟨aT,rv,p,hz⟩:=I.list hq;obtain⟨f0,f1,f2,f3,f4,f5⟩:=hf it 135;have hl:=rv.length;exact wu (I.ok.hd hc) st p.isList (by simp;omega) λh' eb=>⟨rfl,I.turned (t':=s.toks) (λb o hb e=>eb b o hb e) f0 f1 f3 f4 f5⟩
 self:=λ_ _ _ _ _ st h=>wpAny_pyIter_listiter st h
def Aw {P:Program}{w:World}{K:bp}{tg:Expr}(a it:Addr):Turn P w K tg (oy K a) [it] it (λi h=>h.IsTupleIter it a i) where
 mem:=85
 obj:=λi h st b hb=>by
  have e:b=it:=by simpa using hb
  subst e;obtain⟨o,e,c,d⟩:=st;exact⟨o,e,λv z=>by rw [d] at z;cases z⟩
 keep:=λi h h' st k=>st.at λo e=>k it 135 o e
 item:=by
  intro X hP hw hK hc i ag s σ H E I hf st hg;subst hP hw hK;obtain⟨xs,x,hq,hx⟩:=hg;obtain⟨aT,rv,p,hz⟩:=I.tuple hq;obtain⟨u,hu,ru⟩:=rv.get hx;obtain⟨f0,f1,f2,f3,f4,f5⟩:=hf it 135;refine wpAny_pyNext_tuple_item st (show s.heap.IsTuple a aT.toArray from p) (x:=u) (by simpa using hu) λh' uZ sb=>?_;have I1:Inv X ag σ H { s with heap:=h' }:=I.turned (t':=s.toks) (λb o hb e=>(sb.2 b hb).trans e) f0 f1 f3 f4 f5;obtain⟨o,e,c,d⟩:=id uZ;exact⟨u,rfl,C_ (s:={ s with heap:=h' }) e c d nofun ⟨x,H,I1,ru,⟨rfl,λys hy=>by rw [I.jm hy hq];exact hx⟩,uZ,λb hb=>(hf b hb).1⟩⟩
 done:=by
  intro X hP hw hK hc i ag s σ H E I hf st hg;subst hP hw hK;obtain⟨xs,hq,hx⟩:=hg;obtain⟨aT,rv,p,hz⟩:=I.tuple hq;obtain⟨f0,f1,f2,f3,f4,f5⟩:=hf it 135;have hl:=rv.length;exact wpAny_pyNext_tuple_end (I.ok.hd hc) st (show s.heap.IsTuple a aT.toArray from p) (by simp;omega) λh' eb=>⟨rfl,I.turned (t':=s.toks) (λb o hb e=>eb b o hb e) f0 f1 f3 f4 f5⟩
 self:=λ_ _ _ _ _ st h=>wpAny_pyIter_tupleiter st h
def Ax {P:Program}{w:World}{K:bp}{tg:Expr}(it:Addr) (lo:Int) (n:Nat):Turn P w K tg (LV lo n) [it] it (λi h=>IsRangeIter h it (lo+(i:Nat) * 1) ((n:Int) - (i:Nat)) 1) where
 mem:=85
 obj:=λi h st b hb=>by
  have e:b=it:=by simpa using hb
  subst e;exact⟨_,st,λv z=>by
   have z':Data.fields _=Data.cell v:=z;cases z'⟩
 keep:=λi h h' st k=>k it 135 _ st
 item:=by
  intro X hP hw hK hc i ag s σ H E I hf st hg;subst hP hw hK;obtain⟨f0,f1,f2,f3,f4,f5⟩:=hf it 135;have W:=Walks.range (prog:=X.prog) (w:=X.w) (I.ok.hd hc) it lo 1 n;refine W.item i s _ _ hg st λv h' tk hv uZ kk=>?_;obtain⟨t,rfl⟩:=hv;have I1:Inv X ag σ H { s with heap:=h',toks:=tk }:=I.turned (λb o hb e=>kk b o (by simpa using hb) e) f0 f1 f3 f4 f5;refine⟨_,rfl,C_ (s:={ s with heap:=h',toks:=tk }) (n := "range_iterator") uZ rfl rfl nofun ⟨.int (lo+i),H,I1,⟨t,?_⟩,⟨rfl,rfl⟩,uZ,λb hb=>(hf b hb).1⟩⟩;rw [Int.mul_one]
 done:=by
  intro X hP hw hK hc i ag s σ H E I hf st hg;subst hP hw hK;obtain⟨f0,f1,f2,f3,f4,f5⟩:=hf it 135;exact wpAny_pyNext_range_end (I.ok.hd hc) st (by have:n<=i:=hg;omega) λh' eb=>⟨rfl,I.turned (t':=s.toks) (λb o hb e=>eb b o hb e) f0 f1 f3 f4 f5⟩
 self:=λ_ _ _ _ _ st h=>wpAny_pyIter_rangeiter st h
section
variable {X:Cx}{tg:Expr}
def Sd (K:bp)(tl:TE):TI:=λσ H R=>tl σ H λx H1=>V1 x (λa=>∃xs,aI K H1 a xs) λa=>R (jG K a) H1
def Yd (K:bp)(tl:TE):TI:=λσ H R=>tl σ H λx H1=>V1 x (λa=>∃xs,aY K H1 a xs) λa=>R (oy K a) H1
def aR {l:Expr}{tl:TE}(hl:PE X l tl):PI X tg l (Sd X.K tl):=by
 intro ag s σ H R I h;refine dB (hl ag s σ H _ I h) λv s1 bI=>?_;obtain⟨x,H1,I1,r1,q1⟩:=bI;obtain⟨a,e,⟨xs,hq⟩,q⟩:=q1;subst e;cases r1;obtain⟨aT,rv,p,hz⟩:=I1.list hq;refine oP p.isList ?_;refine⟨s1.heap.objs.size,[s1.heap.objs.size],_,_,H1,rfl,I1.kept (t':=s1.toks) λb o e=>b9 _ e,DE a _,⟨_,dA _ rfl,rfl,rfl⟩,λb hb=>?_,q⟩;have e:b=s1.heap.objs.size:=by simpa using hb
 subst e;exact I1.xK (aG _) (I1.cu.fresh (aG _))
def eV {l:Expr}{tl:TE}(hl:PE X l tl):PI X tg l (Yd X.K tl):=by
 intro ag s σ H R I h;refine dB (hl ag s σ H _ I h) λv s1 bI=>?_;obtain⟨x,H1,I1,r1,q1⟩:=bI;obtain⟨a,e,⟨xs,hq⟩,q⟩:=q1;subst e;cases r1;obtain⟨aT,rv,p,hz⟩:=I1.tuple hq;refine v8 (show s1.heap.IsTuple a aT.toArray from p) ?_;refine⟨s1.heap.objs.size,[s1.heap.objs.size],_,_,H1,rfl,I1.kept (t':=s1.toks) λb o e=>b9 _ e,Aw a _,⟨_,dA _ rfl,rfl,rfl⟩,λb hb=>?_,q⟩;have e:b=s1.heap.objs.size:=by simpa using hb
 subst e;exact I1.xK (aG _) (I1.cu.fresh (aG _))
def GI {ag:z0e}{σ:St}{H:Hp}{s:Shared}{R:It->Hp->Prop}{E:z0b}{lo hi:Int}{t u v:Tok}{tk:Nat}(I:133)(h1:-(2 ^ 62)<=lo)(h2:lo < 2 ^ 62)(h3:-(2 ^ 62)<=hi)(h4:hi < 2 ^ 62)
  (q:R (LV lo (hi - lo).toNat) H):wpAny 145 X.A (pyIter (180)) (PIE X ag σ tg R) E { s with heap:=s.heap.push { cls:=.type "range",data:=.fields #[.int lo t,.int hi u,.int 1 v] },toks:=tk }:=by
 refine wpAny_pyIter_range (IsRange.new ..) (small_one h1 h2 h3 h4) ?_;have I1:Inv X ag σ H { s with heap:=s.heap.push { cls:=.type "range",data:=.fields #[.int lo t,.int hi u,.int 1 v] },toks:=tk }:=I.kept λb o e=>b9 _ e;refine⟨(s.heap.push { cls:=.type "range",data:=.fields #[.int lo t,.int hi u,.int 1 v] }).objs.size,[(s.heap.push { cls:=.type "range",data:=.fields #[.int lo t,.int hi u,.int 1 v] }).objs.size],_,_,H,rfl,
  I1.kept (t':=tk) λb o e=>b9 _ e,Ax _ lo (hi - lo).toNat,?_,λb hb=>?_,q⟩
 .have e1:lo+((0:Nat):Int) * 1=lo:=85
  have e2:(((hi - lo).toNat:Nat):Int) - ((0:Nat):Int)=Builtin.Range.rangeSize lo hi 1:=by rw [rangeSize_one];split <;> omega
  show IsRangeIter _ _ (lo+((0:Nat):Int) * 1) ((((hi - lo).toNat:Nat):Int) - ((0:Nat):Int)) 1;rw [e1,e2];exact dA _ rfl
 have e:b=(s.heap.push { cls:=.type "range",data:=.fields #[.int lo t,.int hi u,.int 1 v] }).objs.size:=by simpa using hb
 subst e;exact I1.xK (aG _) (I1.cu.fresh (aG _))
def Sb (ta:TA):TI:=λσ H R=>ta σ H λvs H1=>XRg vs λj=>R (LV 0 j.toNat) H1
def ib {a:Expr}{ta:TA}{p pos:Pos}(hg:Gl X "range")(hm:X.mg "range"=none)(ha:PA X [a] ta)(hs:starEach [a] X.env=[(false,eval a X.env)]:=by rfl):PI X tg (.Call (.Name "range" p) [a] [] pos) (Sb ta):=by
 intro ag s σ H R I h;refine Call_ (jR I hg hm boot_range (wD (dB (ha pos ag s σ H _ I h) λus s1 bI=>?_) hs rfl));obtain⟨vs,H1,I1,r1,q1⟩:=bI;obtain⟨j,e,q1,q2,q⟩:=q1;subst e;cases r1 with
 | cons r rr =>
  cases rr;obtain⟨t,rfl⟩:=r;exact call_range_1 (GI I1 ∅ ∅ q1 q2 (by simpa using q))
def WD (wi:TI)(g:TG)(tb:TS):TS:=λD σ H=>wi σ H λJ H1=>∃W:Nat->Nat->St->Hp->Prop,(∃m,W 0 m σ H1)/\∀i m σ H,W i m σ H ->
 (J.stop i H/\D.nx σ H)\/(J.go i H/\∃N:St->Hp->Prop,(∀σ' H',N σ' H'->∃m',m' < m/\W (i+1) m' σ' H')/\∀x H',J.lS i H x H'->g x σ H' λσ2 H2=>tb { D with nx:=N,ct:=N,bk:=D.nx } σ2 H2)
def o7 (fp:z0q)(h:Heap):z0e:=fp.filterMap λb=>(h.get? b).map λo=>(b,o)
def ic {fp:z0q}{h:Heap}{b:Addr}{o:Obj}(hb:b∈fp)(e:h.get? b=some o):(b,o)∈o7 fp h:=List.mem_filterMap.mpr ⟨b,hb,by rw [e];rfl⟩
def Ef {fp:z0q}{h:Heap}{p:Addr×Obj}(hp:p∈o7 fp h):p.1∈fp/\h.get? p.1=some p.2:=by
 obtain⟨b,hb,e⟩:=List.mem_filterMap.mp hp;cases q:h.get? b with
 | none=>rw [q] at e;cases e
 | some o =>
  rw [q] at e;have e':(b,o)=p:=hJ e;subst e';exact⟨hb,q⟩
def Inv.pinned {ag:z0e}{σ:St}{H:Hp}{s:Shared}{fp:z0q}(I:133)(hf:∀b∈fp,ye X ag H b)(ho:∀b∈fp,∃o,158/\∀v,o.data≠.cell v):Inv X (ag++o7 fp s.heap) σ H s :=
 I.CP λp hp=>(bO.mp hp).elim (λz=>I.pin p (dM _ z)) λz=>by
  obtain⟨hb,e⟩:=Ef z;obtain⟨f0,f1,f2,_⟩:=hf p.1 hb;obtain⟨o,e',d⟩:=ho p.1 hb;rw [e] at e';cases e';exact⟨e,f0,f1,f2,d⟩
def Inv.kI {ag pl:z0e}{σ:St}{H:Hp}{s:Shared}(I:Inv X (ag++pl) σ H s):133:=I.CP λp hp=>I.pin p (dM _ (eI _ hp))
def bJ {iter:Expr}{body:List Stmt}{wi:TI}{g:TG}{tb:TS}{pos:Pos}(hp:PassesOwn 145 X.A X.env X.xe)(hc:X.calm=true)(hi:PI X tg iter wi)(hg:PG X tg g)(hb:Cd X body tb)
  (hs:∀x,foldedSetIterable iter X.env x=pure x:=by intro _;rfl):PS X (.For tg iter body [] pos) (WD wi g tb):=by
 intro ag s σ H D I h;refine wpAny_For (dB (hi ag s σ H _ I h) λv s1 h1=>dB h1 λVa s2 h2=>?_) hs;obtain⟨it,fp,tn,J,H2,e,I2,T,Jw,f2,W,⟨m0,w0⟩,turn⟩:=h2;subst e;have rT:∀{H':Hp},(∀b∈fp,H' b=none)->∀b∈fp,ye X ag H' b:=λhn b hb=>⟨hn b hb,(f2 b hb).2⟩;refine codeAny_forLoop_any (λn s'=>∃i σ' H',Inv X ag σ' H' s'/\tn i s'.heap/\(∀b∈fp,H' b=none)/\W i n σ' H') ?_ m0 ⟨0,σ,H2,I2,Jw,λb hb=>(f2 b hb).1,w0⟩;rintro n s3 ⟨i,σ3,H3,I3,Q9,fr3,w3⟩;rcases turn i n σ3 H3 w3 with ⟨stop,qn⟩ | ⟨go,N,hN,step⟩
 .refine mr hp (dB (T.done X rfl rfl rfl hc i ag s3 σ3 H3 X.xe I3 (rT fr3) Q9 stop) λr s4 ⟨hr,I4⟩=>?_);subst hr;exact wpAny_execs_nil ⟨σ3,H3,I4,qn⟩
 refine mr hp (dB (T.item X rfl rfl rfl hc i ag s3 σ3 H3 X.xe I3 (rT fr3) Q9 go) λr s4 ⟨u,hr,h4⟩=>?_);subst hr;refine mr hp (dB h4 λ_ s5 bI=>?_);obtain⟨x,H5,I5,r5,y5,DJ,Th⟩:=bI;have I5':=I5.pinned (rT Th) (T.obj _ _ DJ);refine mr hp (dB (hg _ s5 σ3 H5 x u _ I5' r5 (step x H5 y5)) λ_ s6 bI=>?_);obtain⟨σ6,H6,I6,q6⟩:=bI;refine mr hp (dB (hb _ s6 σ6 H6 _ I6 q6) λf s7 q7=>?_);have again:∀{σ7:St}{H7:Hp},Inv X (ag++o7 fp s5.heap) σ7 H7 s7->N σ7 H7->∃m,m < n/\∃i σ' H',Inv X ag σ' H' s7/\tn i s7.heap/\(∀b∈fp,H' b=none)/\W i m σ' H':=λ{σ7 H7} I7 n7=>by
  obtain⟨m',hm,w7⟩:=hN σ7 H7 n7;refine⟨m',hm,i+1,σ7,H7,I7.kI,T.keep _ _ _ DJ λb hb o e=>(I7.pin (b,o) (dM _ (dM _ (ic hb e)))).1,λb hb=>?_,w7⟩;obtain⟨o,e,d⟩:=T.obj _ _ DJ b hb;exact(I7.pin (b,o) (dM _ (dM _ (ic hb e)))).2.1
 cases f with
 | next=>obtain⟨σ7,H7,I7,n7⟩:=q7;exact again I7 n7
 | cont=>obtain⟨σ7,H7,I7,n7⟩:=q7;exact again I7 n7
 | brk=>obtain⟨σ7,H7,I7,q7⟩:=q7;exact⟨σ7,H7,I7.kI,q7⟩
 | ret v=>obtain⟨x7,σ7,H7,I7,r7,q7⟩:=q7;exact⟨x7,σ7,H7,I7.kI,r7,q7⟩
end
def bP {K:bp}{a:Addr}{xs:List V}{g:TG}{tb:TS}{D:Ends}{σ:St}{H:Hp}(Pv:Nat->St->Hp->Prop)(h0:Pv 0 σ H)(hl:∀i σ H,i<=xs.length->Pv i σ H->aI K H a xs)
  (hs:∀i x σ H,xs[i]?=some x->Pv i σ H->g x σ H λσ2 H2=>tb { D with nx:=Pv (i+1),ct:=Pv (i+1),bk:=D.nx } σ2 H2)(hd:∀σ H,Pv xs.length σ H->D.nx σ H) :
  ∃W:Nat->Nat->St->Hp->Prop,(∃m,W 0 m σ H)/\∀i m σ H,W i m σ H ->
   ((jG K a).stop i H/\D.nx σ H)\/((jG K a).go i H/\∃N:St->Hp->Prop,(∀σ' H',N σ' H'->∃m',m' < m/\W (i+1) m' σ' H')/\∀x H',(jG K a).lS i H x H'->g x σ H' λσ2 H2=>tb { D with nx:=N,ct:=N,bk:=D.nx } σ2 H2):=by
 refine⟨λi m σ H=>m=xs.length - i/\i<=xs.length/\Pv i σ H,⟨xs.length,85,gp _,h0⟩,?_⟩;rintro i m σ H ⟨rfl,hi,p⟩;have q:=hl i σ H hi p;by_cases jd:i < xs.length
 .refine .inr ⟨⟨xs,xs[i],q,by simp [jd]⟩,Pv (i+1),λσ' H' p'=>⟨xs.length - (i+1),∅,rfl,jd,p'⟩,λx H' y=>?_⟩;obtain⟨e,y⟩:=y;subst e;exact hs i x σ _ (y xs q) p
 have e:i=xs.length:=by omega
 subst e;exact .inl ⟨⟨xs,q,aG _⟩,hd σ H p⟩
def xN {K:bp}{a:Addr}{xs:List V}{g:TG}{tb:TS}{D:Ends}{σ:St}{H:Hp}(Pv:Nat->St->Hp->Prop)(h0:Pv 0 σ H)(hl:∀i σ H,i<=xs.length->Pv i σ H->aY K H a xs)
  (hs:∀i x σ H,xs[i]?=some x->Pv i σ H->g x σ H λσ2 H2=>tb { D with nx:=Pv (i+1),ct:=Pv (i+1),bk:=D.nx } σ2 H2)(hd:∀σ H,Pv xs.length σ H->D.nx σ H) :
  ∃W:Nat->Nat->St->Hp->Prop,(∃m,W 0 m σ H)/\∀i m σ H,W i m σ H ->
   ((oy K a).stop i H/\D.nx σ H)\/((oy K a).go i H/\∃N:St->Hp->Prop,(∀σ' H',N σ' H'->∃m',m' < m/\W (i+1) m' σ' H')/\∀x H',(oy K a).lS i H x H'->g x σ H' λσ2 H2=>tb { D with nx:=N,ct:=N,bk:=D.nx } σ2 H2):=by
 refine⟨λi m σ H=>m=xs.length - i/\i<=xs.length/\Pv i σ H,⟨xs.length,85,gp _,h0⟩,?_⟩;rintro i m σ H ⟨rfl,hi,p⟩;have q:=hl i σ H hi p;by_cases jd:i < xs.length
 .refine .inr ⟨⟨xs,xs[i],q,by simp [jd]⟩,Pv (i+1),λσ' H' p'=>⟨xs.length - (i+1),∅,rfl,jd,p'⟩,λx H' y=>?_⟩;obtain⟨e,y⟩:=y;subst e;exact hs i x σ _ (y xs q) p
 have e:i=xs.length:=by omega
 subst e;exact .inl ⟨⟨xs,q,aG _⟩,hd σ H p⟩
def jC {lo:Int}{n:Nat}{g:TG}{tb:TS}{D:Ends}{σ:St}{H:Hp}(Pv:Nat->St->Hp->Prop)(h0:Pv 0 σ H)
  (hs:∀i σ H,i < n->Pv i σ H->g (.int (lo+i)) σ H λσ2 H2=>tb { D with nx:=Pv (i+1),ct:=Pv (i+1),bk:=D.nx } σ2 H2)(hd:∀σ H,Pv n σ H->D.nx σ H) :
  ∃W:Nat->Nat->St->Hp->Prop,(∃m,W 0 m σ H)/\∀i m σ H,W i m σ H ->
   ((LV lo n).stop i H/\D.nx σ H)\/((LV lo n).go i H/\∃N:St->Hp->Prop,(∀σ' H',N σ' H'->∃m',m' < m/\W (i+1) m' σ' H')/\∀x H',(LV lo n).lS i H x H'->g x σ H' λσ2 H2=>tb { D with nx:=N,ct:=N,bk:=D.nx } σ2 H2):=by
 refine⟨λi m σ H=>m=n - i/\i<=n/\Pv i σ H,⟨n,85,gp _,h0⟩,?_⟩;rintro i m σ H ⟨rfl,hi,p⟩;by_cases jd:i < n
 .refine .inr ⟨jd,Pv (i+1),λσ' H' p'=>⟨n - (i+1),∅,rfl,jd,p'⟩,λx H' y=>?_⟩;obtain⟨e,y⟩:=y;subst e y;exact hs i σ _ jd p
 have e:i=n:=by omega
 subst e;exact .inl ⟨aG _,hd σ H p⟩
abbrev R2:=V->V->Hp->VK->Prop
def ng (X:Cx)(f:Value->Value->Sem Value)(r:R2):Prop :=
 ∀(ag:z0e)(s:Shared)(σ:St)(H:Hp)(x y:V)(v u:Value)(Q:VK),133->RelV x v->RelV y u->r x y H Q ->
  wpAny 145 X.A (f v u) (EP X ag σ Q) X.xe s
def UnR (X:Cx)(f:Value->Sem Value)(r:V->Hp->VK->Prop):Prop :=
 ∀(ag:z0e)(s:Shared)(σ:St)(H:Hp)(x:V)(v:Value)(Q:VK),133->RelV x v->r x H Q ->
  wpAny 145 X.A (f v) (EP X ag σ Q) X.xe s
def iV (X:Cx)(f:Value)(r:List V->Hp->VK->Prop):Prop :=
 ∀(ag:z0e)(s:Shared)(σ:St)(H:Hp)(xs:List V)(us:z0n)(Q:VK),133->bF xs us->r xs H Q ->
  wpAny 145 X.A (call f us) (EP X ag σ Q) X.xe s
def aaq (X:Cx)(r:V->Hp->(Bool->Hp->Prop)->Prop):Prop :=
 ∀(ag:z0e)(s:Shared)(σ:St)(H:Hp)(x:V)(v:Value)(Q:Bool->Hp->Prop),133->RelV x v->r x H Q ->
  wpAny 145 X.A (truthy v) (TP X ag σ Q) X.xe s
def UK (r:R2)(ta tb:TE):TE:=λσ H Q=>ta σ H λx H1=>tb σ H1 λy H2=>r x y H2 Q
def tUn (r:V->Hp->VK->Prop)(ta:TE):TE:=λσ H Q=>ta σ H λx H1=>r x H1 Q
def rI (C:Int->Int->Prop)(g:Int->Int->V):R2:=λx y H Q=>XI2 x y C λi j=>Q (g i j) H
def NX (g:Int->Int->V):R2:=λx y H Q=>XI0 x y λi j=>Q (g i j) H
def rU (g:Int->V):V->Hp->VK->Prop:=λx H Q=>XI1 x λi=>Q (g i) H
section
variable {X:Cx}{a b c:Expr}{ta tb tc:TE}{pos:Pos}
def Px (ha:PE X a ta)(hb:PE X b tb){ag:z0e}{s:Shared}{σ:St}{H:Hp}{R:V->V->Hp->Prop}(I:133)
  (h:ta σ H λx H1=>tb σ H1 λy H2=>R x y H2){Q:z0b}{f:Value->Value->Sem Value}
  (hf:∀v u s2 x y H2,Inv X ag σ H2 s2->RelV x v->RelV y u->R x y H2->wpAny 145 X.A (f v u) Q X.xe s2) :
  wpAny 145 X.A (eval a X.env) (λv s₁=>wpAny 145 X.A (eval b X.env) (λu s₂=>wpAny 145 X.A (f v u) Q X.xe s₂) X.xe s₁) X.xe s:=by
 refine dB (ha ag s σ H _ I h) λv s1 bI=>?_;obtain⟨x,H1,I1,r1,q1⟩:=bI;refine dB (hb ag s1 σ H1 _ I1 q1) λu s2 bI=>?_;obtain⟨y,H2,I2,r2,q2⟩:=bI;exact hf v u s2 x y H2 I2 r1 r2 q2
def aQ {op:Operator}{r:R2}(ho:ng X (binaryOp op) r)(ha:PE X a ta)(hb:PE X b tb):PE X (.BinOp a op b pos) (UK r ta tb):=by
 intro ag s σ H Q I h;exact wpAny_BinOp (Px ha hb I h λv u s2 x y H2 I2 rx ry q=>ho ag s2 σ H2 x y v u Q I2 rx ry q)
def yK {op:UnaryOp}{r:V->Hp->VK->Prop}(ho:UnR X (unaryOp op) r)(ha:PE X a ta):PE X (.UnaryOp op a pos) (tUn r ta):=by
 intro ag s σ H Q I h;refine UnaryOp_ (dB (ha ag s σ H _ I h) λv s1 bI=>?_);obtain⟨x,H1,I1,r1,q1⟩:=bI;exact ho ag s1 σ H1 x v Q I1 r1 q1
def Xd {f:Value->Value->Sem Value}{C:Int->Int->Prop}{g:Int->Int->Int}
  (rule:∀(i j:Int)(t u:Tok)(s:Shared)(Q:z0b)(E:z0b),C i j->Q (.int (g i j) s.toks) { s with toks:=s.toks+1 }->wpAny 145 X.A (f (.int i t) (.int j u)) Q E s) :
  ng X f (rI C λi j=>.int (g i j)):=by
 intro ag s σ H x y v u Q I rx ry h;obtain⟨i,j,rfl,rfl,hc,q⟩:=h;obtain⟨t,rfl⟩:=rx;obtain⟨t',rfl⟩:=ry;exact rule i j t t' s _ _ hc ⟨.int (g i j),H,I.tok _,⟨_,rfl⟩,q⟩
def RC {f:Value->Value->Sem Value}{g:Int->Int->Int}
  (rule:∀(i j:Int)(t u:Tok)(s:Shared)(Q:z0b)(E:z0b),Q (.int (g i j) s.toks) { s with toks:=s.toks+1 }->wpAny 145 X.A (f (.int i t) (.int j u)) Q E s) :
  ng X f (NX λi j=>.int (g i j)):=by
 intro ag s σ H x y v u Q I rx ry h;obtain⟨i,j,rfl,rfl,q⟩:=h;obtain⟨t,rfl⟩:=rx;obtain⟨t',rfl⟩:=ry;exact rule i j t t' s _ _ ⟨.int (g i j),H,I.tok _,⟨_,rfl⟩,q⟩
def N8 {f:Value->Value->Sem Value}{g:Int->Int->Bool}
  (rule:∀(i j:Int)(t u:Tok)(s:Shared)(Q:z0b)(E:z0b),Q (.bool (g i j)) s->wpAny 145 X.A (f (.int i t) (.int j u)) Q E s) :
  ng X f (NX λi j=>.bl (g i j)):=by
 intro ag s σ H x y v u Q I rx ry h;obtain⟨i,j,rfl,rfl,q⟩:=h;obtain⟨t,rfl⟩:=rx;obtain⟨t',rfl⟩:=ry;exact rule i j t t' s _ _ ⟨.bl (g i j),H,I,rfl,q⟩
def aar (i j:Int):Prop:=0 < j/\j < 1073741824
def PR (i j:Int):Prop:=(-(2 ^ 64) < i/\i < 2 ^ 64)\/(-(2 ^ 64) < j/\j < 2 ^ 64)
def PR.ok {i j:Int}(h:PR i j):IntMulOk i j:=by
 rcases h with ⟨h1,h2⟩ | ⟨h1,h2⟩
 .exact .of_left (intBits_le_64 h1 h2)
 exact .of_right (intBits_le_64 h1 h2)
def dw:ng X (binaryOp .Add) (NX λi j=>.int (i+j)):=RC λ_ _ _ _ _ _ _ q=>add_int q
def Hd:ng X (binaryOp .Sub) (NX λi j=>.int (i - j)):=RC λ_ _ _ _ _ _ _ q=>sub_int q
def He:ng X (binaryOp .Mult) (rI PR λi j=>.int (i * j)):=Xd λ_ _ _ _ _ _ _ hc q=>mul_int q hc.ok
def c_:ng X (binaryOp .FloorDiv) (rI aar λi j=>.int (i / j)):=Xd λi j _ _ _ _ _ hc q=>by
 have h1:(0:Int) < j:=hc.1;have h2:j < 1073741824:=hc.2;exact floordiv_int ∅ (by rw [Int.fdiv_eq_ediv_of_nonneg i ∅];exact q) (.inl (PyProof.noPylong_small ∅))
def du:ng X (binaryOp .Mod) (rI (λ_ j=>0 < j) λi j=>.int (i % j)):=Xd λi j _ _ _ _ _ hc q=>by
 have h1:(0:Int) < j:=hc;exact mod_int' ∅ (by rw [Int.fmod_eq_emod_of_nonneg i ∅];exact q)
def unI {f:Value->Sem Value}{g:Int->Int}
  (rule:∀(i:Int)(t:Tok)(s:Shared)(Q:z0b)(E:z0b),Q (.int (g i) s.toks) { s with toks:=s.toks+1 }->wpAny 145 X.A (f (.int i t)) Q E s) :
  UnR X f (rU λi=>.int (g i)):=by
 intro ag s σ H x v Q I rx h;obtain⟨i,rfl,q⟩:=h;obtain⟨t,rfl⟩:=rx;exact rule i t s _ _ ⟨.int (g i),H,I.tok _,⟨_,rfl⟩,q⟩
def rQ:UnR X (unaryOp .USub) (rU λi=>.int (-i)):=unI λ_ _ _ _ _ q=>neg_int q
end
def Rg:V->V->Bool
 | .d0,.d0=>true | .d0,.int _=>true | .int _,.d0=>true | .d0,.bl _=>true | .bl _,.d0=>true | .d0,.str _=>true | .str _,.d0=>true
 | .int _,.int _=>true | .bl _,.bl _=>true | .str _,.str _=>true | .B9 _,.B9 _=>true
 | .int _,.str _=>true | .str _,.int _=>true | .bl _,.str _=>true | .str _,.bl _=>true
 | _,_=>false
def rEq:R2:=λx y H Q=>Rg x y=true/\Q (.bl (decide (x=y))) H
def rNe:R2:=λx y H Q=>Rg x y=true/\Q (.bl (!decide (x=y))) H
def Di {i j:Int}:decide (V.int i=V.int j)=(i == j):=by
 rw [jf];simp
def IY {i j:Bool}:decide (V.bl i=V.bl j)=(i == j):=by
 rw [jf];simp
def Dg {i j:Str}:decide (V.str i=V.str j)=(i == j):=by
 rw [jf];simp
def Dj {i j:Array UInt8}:decide (V.B9 i=V.B9 j)=(i.toList == j.toList):=by
 rw [jf];cases i;cases j;simp
section
variable {X:Cx}{a b c:Expr}{ta tb tc:TE}{pos:Pos}
def cN {ag:z0e}{σ:St}{H:Hp}{s:Shared}{Q:VK}{k k':Bool}(I:133)(q:Q (.bl k) H)(e:k=k'):EP X ag σ Q (.bool k') s:=by
 subst e;exact⟨.bl k,H,I,rfl,q⟩
def kR:ng X (compareOp .Eq) rEq:=by
 intro ag s σ H x y v u Q I rx ry h;obtain⟨hs,q⟩:=h;cases x with
 | d0 =>
  cases rx;cases y with
  | d0=>cases ry;exact PySem.EqNone.eq_none_none (cN I q 135)
  | bl j=>cases ry;exact PySem.EqNone.eq_none_bool (cN I q 135)
  | int j=>obtain⟨t',rfl⟩:=ry;exact PySem.EqNone.eq_none_int (cN I q 135)
  | str j=>obtain⟨t',rfl⟩:=ry;exact PySem.EqNone.eq_none_str (cN I q 135)
  | _=>exact absurd (show false=true from hs) cQ
 | bl i =>
  cases rx;cases y with
  | d0=>cases ry;exact PySem.EqNone.eq_bool_none (cN I q 135)
  | bl j=>cases ry;exact eq_bool (cN I q IY)
  | str j=>obtain⟨t',rfl⟩:=ry;exact PySem.EqMixed.eq_bool_str (cN I q 135)
  | _=>exact absurd (show false=true from hs) cQ
 | int i =>
  obtain⟨t,rfl⟩:=rx;cases y with
  | d0=>cases ry;exact PySem.EqNone.eq_int_none (cN I q 135)
  | int j=>obtain⟨t',rfl⟩:=ry;exact eq_int (cN I q Di)
  | str j=>obtain⟨t',rfl⟩:=ry;exact PySem.EqMixed.eq_int_str (cN I q 135)
  | _=>exact absurd (show false=true from hs) cQ
 | str i =>
  obtain⟨t,rfl⟩:=rx;cases y with
  | d0=>cases ry;exact PySem.EqNone.eq_str_none (cN I q 135)
  | bl j=>cases ry;exact PySem.EqMixed.eq_str_bool (cN I q 135)
  | int j=>obtain⟨t',rfl⟩:=ry;exact PySem.EqMixed.eq_str_int (cN I q 135)
  | str j=>obtain⟨t',rfl⟩:=ry;exact eq_str (cN I q Dg)
  | _=>exact absurd (show false=true from hs) cQ
 | B9 i =>
  obtain⟨t,rfl⟩:=rx;cases y with
  | B9 j=>obtain⟨t',rfl⟩:=ry;exact PySem.W.eq_bytes (cN I q Dj)
  | _=>exact absurd (show false=true from hs) cQ
 | _=>cases y <;> exact absurd (show false=true from hs) cQ
def RB:ng X (compareOp .NotEq) rNe:=by
 intro ag s σ H x y v u Q I rx ry h;obtain⟨hs,q⟩:=h;cases x with
 | d0 =>
  cases rx;cases y with
  | d0=>cases ry;exact PySem.EqNone.ne_none_none (cN I q 135)
  | bl j=>cases ry;exact PySem.EqNone.ne_none_bool (cN I q 135)
  | int j=>obtain⟨t',rfl⟩:=ry;exact PySem.EqNone.ne_none_int (cN I q 135)
  | str j=>obtain⟨t',rfl⟩:=ry;exact PySem.EqNone.ne_none_str (cN I q 135)
  | _=>exact absurd (show false=true from hs) cQ
 | bl i =>
  cases rx;cases y with
  | d0=>cases ry;exact PySem.EqNone.ne_bool_none (cN I q 135)
  | bl j=>cases ry;exact ne_bool (cN I q (congrArg not IY))
  | str j=>obtain⟨t',rfl⟩:=ry;exact PySem.EqMixed.ne_bool_str (cN I q 135)
  | _=>exact absurd (show false=true from hs) cQ
 | int i =>
  obtain⟨t,rfl⟩:=rx;cases y with
  | d0=>cases ry;exact PySem.EqNone.ne_int_none (cN I q 135)
  | int j=>obtain⟨t',rfl⟩:=ry;exact ne_int (cN I q (congrArg not Di))
  | str j=>obtain⟨t',rfl⟩:=ry;exact PySem.EqMixed.ne_int_str (cN I q 135)
  | _=>exact absurd (show false=true from hs) cQ
 | str i =>
  obtain⟨t,rfl⟩:=rx;cases y with
  | d0=>cases ry;exact PySem.EqNone.ne_str_none (cN I q 135)
  | bl j=>cases ry;exact PySem.EqMixed.ne_str_bool (cN I q 135)
  | int j=>obtain⟨t',rfl⟩:=ry;exact PySem.EqMixed.ne_str_int (cN I q 135)
  | str j=>obtain⟨t',rfl⟩:=ry;exact ne_str (cN I q (congrArg not Dg))
  | _=>exact absurd (show false=true from hs) cQ
 | B9 i =>
  obtain⟨t,rfl⟩:=rx;cases y with
  | B9 j=>obtain⟨t',rfl⟩:=ry;exact PySem.W.ne_bytes (cN I q (congrArg not Dj))
  | _=>exact absurd (show false=true from hs) cQ
 | _=>cases y <;> exact absurd (show false=true from hs) cQ
def lV:ng X (compareOp .Lt) (NX λi j=>.bl (decide (i < j))):=N8 λ_ _ _ _ _ _ _ q=>lt_int q
def Mm:ng X (compareOp .LtE) (NX λi j=>.bl (decide (i<=j))):=N8 λ_ _ _ _ _ _ _ q=>le_int q
def Hf:ng X (compareOp .Gt) (NX λi j=>.bl (decide (j < i))):=N8 λ_ _ _ _ _ _ _ q=>gt_int q
def cx (b:Expr){op:CmpOp}(h:op≠.In:=by decide)(h2:op≠.NotIn:=by decide):behindInMarks op b=false:=by
 have e1:(op == CmpOp.In)=false:=by cases op <;> first | rfl | exact absurd rfl h
 have e2:(op == CmpOp.NotIn)=false:=by cases op <;> first | rfl | exact absurd rfl h2
 cases b <;> simp [behindInMarks,e1,e2]
def fJ {op:CmpOp}{r:R2}(ho:ng X (compareOp op) r)(ha:PE X a ta)(hb:PE X b tb)(hm:behindInMarks op b=false):PE X (.Compare a [op] [b] pos) (UK r ta tb):=by
 intro ag s σ H Q I h;exact wpAny_Compare1 (Px ha hb I h λv u s2 x y H2 I2 rx ry q=>ho ag s2 σ H2 x y v u Q I2 rx ry q) hm
def QR (t:TE):TT:=λσ H Q=>t σ H λx H'=>XB x λk=>Q k H'
def a_ {op:CmpOp}{r:R2}(ho:ng X (compareOp op) r)(ha:PE X a ta)(hb:PE X b tb)(hm:behindInMarks op b=false):PT X (.Compare a [op] [b] pos) (QR (UK r ta tb)):=by
 intro ag s σ H Q I h;refine wpAny_isTrue_Compare1 (dB (ha ag s σ H _ I h) λv s1 ⟨x,H1,I1,r1,q1⟩=>dB (hb ag s1 σ H1 _ I1 q1) λu s2 ⟨y,H2,I2,r2,q2⟩ =>
  dB (ho ag s2 σ H2 x y v u _ I2 r1 r2 q2) λc s3 ⟨z,H3,I3,r3,k,e,q3⟩=>?_) hm
 subst e;cases r3;exact mC ⟨H3,I3,q3⟩
def Jk (K:bp)(x:V)(H:Hp)(k:Bool):Prop :=
 match x with
 | .d0=>k=false
 | .bl b=>k=b
 | .int i=>k=(i != 0)
 | .str y=>y.length<=sizeLine/\k=((y.length:Int) != 0)
 | .B9 y=>y.size<=sizeLine/\k=((y.size:Int) != 0)
 | .ref p=>(∃xs,aI K H p xs/\k=!xs.isEmpty)\/(∃xs,aY K H p xs/\k=!xs.isEmpty)\/∃kvs,H p=162/\k=!kvs.isEmpty
 | _=>False
def Bz {κ:Type}{kvs:List (κ×V)}{vs:List (κ×Value)}(r:KV kvs vs):(!vs.isEmpty)=!kvs.isEmpty:=by
 cases r <;> rfl
def sV {xs:List V}{aT:z0n}(r:bF xs aT):(!aT.toArray.isEmpty)=!xs.isEmpty:=by
 cases r <;> simp
def xD:(sizeLine:Nat) < 2 ^ 63:=by rw [mj];decide
def Nk:aaq X (λx H Q=>∃k,Jk X.K x H k/\Q k H):=by
 intro ag s σ H x v Q I rx h;obtain⟨k,e,q⟩:=h;have hl:=xD;have hs:sizeLine=16777216:=mj;cases x with
 | d0 =>
  cases rx;have e':k=false:=e;subst e';exact truthy_none ⟨H,I,q⟩
 | bl b =>
  cases rx;have e':k=b:=e;subst e';exact mC ⟨H,I,q⟩
 | int i =>
  obtain⟨t,rfl⟩:=rx;have e':k=(i != 0):=e;subst e';exact PySem.P.truthy_int ⟨H,I,q⟩
 | str y =>
  obtain⟨t,rfl⟩:=rx;obtain⟨hy,e'⟩:y.length<=sizeLine/\k=((y.length:Int) != 0):=e;subst e';exact PySem.P.truthy_str ∅ ⟨H,I.tok _,q⟩
 | B9 y =>
  obtain⟨t,rfl⟩:=rx;obtain⟨hy,e'⟩:y.size<=sizeLine/\k=((y.size:Int) != 0):=e;subst e';exact PySem.W.truthy_bytes ∅ ⟨H,I.tok _,q⟩
 | ref p =>
  cases rx;have e':(∃xs,aI X.K H p xs/\k=!xs.isEmpty)\/(∃xs,aY X.K H p xs/\k=!xs.isEmpty)\/∃kvs,H p=162/\k=!kvs.isEmpty:=e;rcases e' with ⟨xs,hx,e'⟩ | ⟨xs,hx,e'⟩ | ⟨kvs,hx,e'⟩
  .subst e';obtain⟨aT,r,pl,hz⟩:=I.list hx;have bN:=r.length;exact wpAny_truthy_list pl.isList (by simp only [cH];omega) ⟨H,I.tok _,by rw [sV r];exact q⟩
  .subst e';obtain⟨aT,r,pl,hz⟩:=I.tuple hx;have bN:=r.length;exact truthy_tuple pl (by simp only [cH];omega) ⟨H,I.tok _,by rw [sV r];exact q⟩
  subst e';obtain⟨hz,hS,vs,r,m⟩:kvs.length<=sizeLine/\(p == sysModules)=false/\∃vs,KV kvs vs/\s.heap.DictOf (aX X.prog X.w) p vs:=I.cu p _ hx;have bN:kvs.length=vs.length:=bc r;exact wpAny_truthy_dict hS m ∅ ⟨H,I.tok _,by rw [Bz r];exact q⟩
 | _=>exact(show False from e).elim
def iN (ha:PE X a ta)(he:∀whole,isTrue a X.env whole=(do let v <-whole;standAt a.pos;holding [v] (truthy v))) :
  PT X a (λσ H Q=>ta σ H λx H'=>∃k,Jk X.K x H' k/\Q k H'):=by
 intro ag s σ H Q I h;refine isTrue_plain (dB (ha ag s σ H _ I h) λv s1 bI=>?_) (he _);obtain⟨x,H1,I1,r1,q1⟩:=bI;exact Nk ag s1 σ H1 x v Q I1 r1 q1
def A_:ng X (binaryOp .Add) (λx y H Q=>∃i j,x=.str i/\y=.str j/\i.length+j.length<=sizeLine/\Q (.str (i++j)) H):=by
 intro ag s σ H x y v u Q I rx ry h;obtain⟨i,j,rfl,rfl,hz,q⟩:=h;obtain⟨t,rfl⟩:=rx;obtain⟨t',rfl⟩:=ry;exact add_str (λt' tk=>⟨.str (i++j),H,I.tok _,⟨_,rfl⟩,q⟩) hz
def vals1 {x:V}{us:z0n}(r:bF [x] us):∃u,us=[u]/\RelV x u:=by
 cases r with
 | cons r1 r2=>cases r2;exact⟨_,rfl,r1⟩
def vals2 {x y:V}{us:z0n}(r:bF [x,y] us):∃u w',us=[u,w']/\RelV x u/\RelV y w':=by
 cases r with
 | cons r1 r2 =>
  cases r2 with
  | cons r3 r4=>cases r4;exact⟨_,_,rfl,r1,r3⟩
def vL (hc:X.calm=true):iV X (.builtin "max") (λxs H Q=>∃i j,xs=[.int i,.int j]/\Q (.int (if j > i then j else i)) H):=by
 intro ag s σ H xs us Q I r h;obtain⟨i,j,rfl,q⟩:=h;obtain⟨u,w',rfl,⟨t,rfl⟩,⟨t',rfl⟩⟩:=vals2 r;refine max_two_ints (I.ok.hd hc) λh' tk k=>⟨_,H,I.kept k,?_,q⟩;by_cases hj:j > i
 .rw [aw hj,aw hj];exact⟨_,rfl⟩
 rw [ar hj,ar hj];exact⟨_,rfl⟩
def EY (hc:X.calm=true):iV X (.builtin "min") (λxs H Q=>∃i j,xs=[.int i,.int j]/\Q (.int (if j < i then j else i)) H):=by
 intro ag s σ H xs us Q I r h;obtain⟨i,j,rfl,q⟩:=h;obtain⟨u,w',rfl,⟨t,rfl⟩,⟨t',rfl⟩⟩:=vals2 r;refine min_two_ints (I.ok.hd hc) λh' tk k=>⟨_,H,I.kept k,?_,q⟩;by_cases hj:j < i
 .rw [aw hj,aw hj];exact⟨_,rfl⟩
 rw [ar hj,ar hj];exact⟨_,rfl⟩
end
structure Ce (h:Heap)(x dx C:Addr)(mA:z0c):Prop where
 obj:h.get? x=some (PySem.W.instObj C dx)
 ns:h.Ns1 dx mA
 ne:dx≠x
def Ep {h:Heap}{dx:Addr}{mA:z0c}(n:h.Ns1 dx mA):∃od,h.get? dx=some od/\∀name,PySem.W.lookIn name od=some (mA name):=by
 obtain⟨o,es,ep,ho,hd,hk,_,hm⟩:=n;refine⟨o,ho,λname=>?_⟩;have e:=hm name;unfold nsFind findBy at e;rw [<-Array.find?_toList] at e;unfold PySem.W.lookIn;rw [hd];dsimp only
 split
 .rename_i y q
  rw [q] at e;exact congrArg some e
 rename_i q
 rw [q] at e;have a:es.toList.any (·.refKey)=false:=by
  rw [List.any_eq_false];intro y hy;obtain⟨z,t,YI⟩:=hk y (Array.mem_toList_iff.mp hy);simp [DictEntry.refKey,YI]
 have a':¬es.toList.any (·.refKey)=true:=by rw [a];exact cQ
 rw [ar a'];exact congrArg some e
def Ce.look {h:Heap}{x dx C:Addr}{mA:z0c}(I:Ce h x dx C mA):∃od,PySem.W.InstAt h x (PySem.W.instObj C dx) C (some od)/\∀name,PySem.W.lookIn name od=some (mA name) :=
 let ⟨od,ho,hl⟩:=Ep I.ns
 ⟨od,⟨I.obj,rfl,rfl,ho⟩,hl⟩
section
variable {prog:Program}{w:World}{A:Around}{E:z0b}{s:Shared}{K:bp}{x dx C f:Addr}{mA:z0c}{name:Str}{v:Value}
def get_map {expr:Bool}{Q:z0b}(X:K.In s.heap)(I:Ce s.heap x dx C mA)(hg:PySem.W.plainGet K C name=true)(hh:PySem.W.hasDictIn K C=true)
  (ha:PySem.W.findIn K (.ref C) name=some none)(hv:mA name=some v)(hv':PySem.W.handedIn v=true)(h:Q v { s with toks:=s.toks+1 }) :
  wpAny 150 A (getAttr (.ref x) name expr) Q E s:=by
 obtain⟨od,J,hl⟩:=I.look;exact PySem.W.get_value X J (PySem.W.plainGet_of hg).1 (PySem.W.findObj_own hh ha rfl (by rw [hl,hv])) hv' h
def ID {pl:Sem Bool}{Q:Value×z0n->Shared->Prop}(X:K.In s.heap)(I:Ce s.heap x dx C mA)(hg:PySem.W.plainGet K C name=true)
  (hf:PySem.W.findIn K (.ref C) name=some (some (.ref f)))(ht:PySem.W.isFn K (.ref f)=true)(hv:mA name=none)(h:Q (.ref f,[.ref x]) s) :
  wpAny 150 A (getMethod (.ref x) name pl) Q E s:=by
 obtain⟨od,J,hl⟩:=I.look;exact PySem.W.method_fn X J (PySem.W.plainGet_of hg).1 (PySem.W.plainGet_of hg).2 hf (beq_iff_eq.mp ht) (by show (PySem.W.lookIn name od).map (·.isSome)=some false;rw [hl,hv];rfl) h
def J0 {ns:z0t}{Q:Unit->Shared->Prop}(X:K.In s.heap)(I:Ce s.heap x dx C mA)
  (hs:PySem.W.findIn K (.ref C) "__setattr__"=some (some (.builtin "object.__setattr__")))(hp:PySem.W.plainOver K C=true)(ht:PySem.W.takerIn K C name=some none)(hh:PySem.W.hasDictIn K C=true)
  (hw:PySem.Within mA ns)(hsz:ns.length<=sizeLine)
  (h:∀h',Ce h' x dx C (λy=>if y=name then some v else mA y)->Heap.SameBut dx s.heap h'->Q () { s with heap:=h',toks:=s.toks+2 }) :
  wpAny 150 A (setAttr (.ref x) name v) Q E s:=by
 obtain⟨od,J,hl⟩:=I.look;refine PySem.W.set_plain X J hs (PySem.W.osa_open (s:={ s with toks:=s.toks+1 }) (r:=none) X J hp ht λb=>?_);obtain⟨cd,hc,EE⟩:=PySem.W.any_some hh;have hx:s.heap.get? x=some ⟨.ref C,some dx,.plain,#[]⟩:=I.obj;refine aA (aH (aA (aA (wpAny_loadPart hx (aA (PySem.W.Looks.here (s:={ s with toks:=s.toks+1 }) (PySem.W.looks_clsIn X hc) ?_))))));rw [EE];refine aH (a:=some dx) (aA (aH (aA ?_)));refine wpAny_nsSet1 (s:={ s with toks:=s.toks+1 }) I.ns λh' Fq hs2=>?_;obtain⟨oD,esD,epD,hoD,hdD,hcD⟩:=Fq.count (PySem.Within.cons name v hw);refine aA (wpAny_lookBehind hoD (by rw [hdD];exact pastItsLine_dict (gr hcD (by rw [dI];omega))) ?_);exact aH (h _ ⟨(hs2.2 _ (d8 I.ne)).trans I.obj,Fq,I.ne⟩ hs2)
def HY {R:Result->Shared->Prop}{vs:z0n}{kw:z0d}(X:K.In s.heap)(hm:PySem.W.makesIn K C=true)
  (hi:PySem.W.findIn K (.ref C) "__init__"=some (some (.ref f)))(hf:PySem.W.typeIn K (.ref f)=some (.type "function"))
  (h:codeAny 150 (A.under (.builtin "type.__call__" ⟨.ref C::vs,kw⟩)) (.call (.ref f) ⟨.ref (s.heap.objs.size+1)::vs,kw⟩) (PySem.W.InitBack (s.heap.objs.size+1) R)
   { s with heap:=(s.heap.push PySem.W.emptyDict).push (PySem.W.instObj C s.heap.objs.size) }) :
  codeAny 150 A (.call (.ref C) ⟨vs,kw⟩) R s:=by
 obtain⟨hh,g,d,t,os⟩:=s;exact PySem.W.make_core (PySem.W.makes_of X hm) (PySem.W.looks_findIn X hi) (λself=>PySem.W.bind_fn X self hf) (.inl rfl) h
end
def dU (f:Str)(v:V):List (Str×V)->List (Str×V)
 | []=>[(f,v)]
 | (g,x)::r=>if g=f then (g,v)::r else (g,x)::dU f v r
theorem pX (f g:Str)(v:V):∀fs:List (Str×V),(dU f v fs).lookup g=if g=f then some v else fs.lookup g
 | []=>by
  show List.lookup g [(f,v)]=_;by_cases h:g=f
  .have hb:(g == f)=true:=beq_iff_eq.mpr h;simp only [List.lookup,hb,aw h]
  have hb:(g == f)=false:=kc.mpr h;simp only [List.lookup,hb,ar h]
 | (k,x)::r=>by
  have ih:=pX f g v r;rw [show dU f v ((k,x)::r)=(if k=f then (k,v)::r else (k,x)::dU f v r) from rfl];by_cases hk:k=f
  .rw [aw hk];by_cases h:g=k
   .have hb:(g == k)=true:=beq_iff_eq.mpr h;simp only [List.lookup,hb,aw (h.trans hk)]
   have hb:(g == k)=false:=kc.mpr h;simp only [List.lookup,hb,ar (λe:g=f=>h (e.trans hk.symm))]
  rw [ar hk];by_cases h:g=k
  .have hb:(g == k)=true:=beq_iff_eq.mpr h;simp only [List.lookup,hb,ar (λe:g=f=>hk (h.symm.trans e))]
  have hb:(g == k)=false:=kc.mpr h;simp only [List.lookup,hb];exact ih
theorem pz (f:Str)(v:V):∀fs:List (Str×V),f∈(dU f v fs).map 82/\∀g,g∈fs.map 82->g∈(dU f v fs).map 82
 | []=>⟨by simp [dU],λg h=>by simp at h⟩
 | (k,x)::r=>by
  obtain⟨i1,i2⟩:=pz f v r;rw [show dU f v ((k,x)::r)=(if k=f then (k,v)::r else (k,x)::dU f v r) from rfl];by_cases hk:k=f
  .rw [aw hk];subst hk;exact⟨85,λg h=>by simpa using h⟩
  rw [ar hk];refine⟨?_,λg h=>?_⟩
  .rw [cD];exact cS _ i1
  rw [cD] at h ⊢;rcases b8.mp h with e | e
  .exact b8.mpr (.inl e)
  exact cS _ (i2 g e)
theorem pY (f:Str)(v:V):∀fs:List (Str×V),(dU f v fs).length<=fs.length+1
 | []=>by simp [dU]
 | (k,x)::r=>by
  have ih:=pY f v r;rw [show dU f v ((k,x)::r)=(if k=f then (k,v)::r else (k,x)::dU f v r) from rfl];by_cases hk:k=f
  .rw [aw hk,dI,dI];omega
  rw [ar hk,dI,dI];omega
def jW.some_of {v:V}{o:z0k}(r:jW (some v) o):∃u,o=some u/\RelV v u:=by
 cases o with
 | none=>exact(show False from r).elim
 | some u=>exact⟨u,rfl,r⟩
def jW.none_of {o:z0k}(r:jW none o):o=none:=by
 cases o with
 | none=>rfl
 | some u=>exact(show False from r).elim
def EG {v:V}{u:Value}(r:RelV v u):PySem.W.handedIn u=true:=by
 cases v with
 | d0=>cases (show u=Value.none from r);rfl
 | bl b=>cases (show u=Value.bool b from r);rfl
 | int i=>obtain⟨t,e⟩:=(show ∃t,u=Value.int i t from r);cases e;rfl
 | str x=>obtain⟨t,e⟩:=(show ∃t,u=Value.str x t from r);cases e;rfl
 | B9 b=>obtain⟨t,e⟩:=(show ∃t,u=Value.bytes b t from r);cases e;rfl
 | Tj b=>obtain⟨t,e⟩:=(show ∃t,u=Value.float b t from r);cases e;rfl
 | ref a=>cases (show u=Value.ref a from r);rfl
 | ty n=>cases (show u=Value.type n from r);rfl
section
variable {P:Program}{w:World}{H H':Hp}{h h':Heap}{a C dx:Addr}{fs MP:List (Str×V)}
def xH (cu:nh P w H h)(e:H a=some (.ins C dx fs)):∃mA,Ce h a dx C mA/\(∀f,jW (fs.lookup f) (mA f))/\PySem.Within mA (fs.map 82)/\fs.length<=1000/\H dx=some (.own a):=by
 obtain⟨d,z,ne,ob,mA,n,r,q⟩:=(show cP P w H h a (.ins C dx fs) from cu a _ e);exact⟨mA,⟨ob,n,ne⟩,r,q,z,d⟩
end
structure Fe (K:bp)(C:Addr):Prop where
 pg:PySem.W.plainGet K C Str.empty=true
 hd:PySem.W.hasDictIn K C=true
 po:PySem.W.plainOver K C=true
 sa:PySem.W.findIn K (.ref C) "__setattr__"=some (some (.builtin "object.__setattr__"))
def Fe.get {K:bp}{C:Addr}(c:Fe K C)(f:Str):PySem.W.plainGet K C f=true:=c.pg
def dZ (K:bp)(C:Addr)(f:Str):Prop:=PySem.W.findIn K (.ref C) f=some none
def dZ.QP {K:bp}{C:Addr}{f:Str}(n:dZ K C f):PySem.W.takerIn K C f=some none:=by
 unfold PySem.W.takerIn;rw [show PySem.W.findIn K (.ref C) f=some none from n];rfl
structure Meth (K:bp)(C:Addr)(m:Str)(f:Addr):Prop where
 at_:PySem.W.findIn K (.ref C) m=some (some (.ref f))
 fn:PySem.W.isFn K (.ref f)=true
 kp:PySem.W.keepIn K (.ref f)=true
section
variable {X:Cx}{ag:z0e}{σ:St}{H:Hp}{s:Shared}{a C dx:Addr}{fs:List (Str×V)}{f:Str}{v:V}{A:Around}{E:z0b}
def BM {b:Bool}{Q:z0b}(I:133)(e:H a=some (.ins C dx fs))(c:Fe X.K C)(n:dZ X.K C f)(l:fs.lookup f=some v)
  (h:∀u s',Inv X ag σ H s'->RelV v u->Q u s'):wpAny 145 A (getAttr (.ref a) f b) Q E s:=by
 obtain⟨mA,O,r,_,_,_⟩:=xH I.cu e;obtain⟨u,hu,ru⟩:=jW.some_of (v:=v) (o:=mA f) (by rw [<-l];exact r f);exact get_map I.yY O (c.get f) c.hd n hu (EG ru) (h u _ (I.tok _) ru)
def mV {m:Str}{g:Addr}{pl:Sem Bool}{Q:Value×z0n->Shared->Prop}(I:133)(e:H a=some (.ins C dx fs))(c:Fe X.K C)(k:Meth X.K C m g)(l:fs.lookup m=none)
  (h:Q (.ref g,[.ref a]) s):wpAny 145 A (getMethod (.ref a) m pl) Q E s:=by
 obtain⟨mA,O,r,_,_,_⟩:=xH I.cu e;have hn:mA m=none:=jW.none_of (by rw [<-l];exact r m);exact ID I.yY O (c.get m) k.at_ k.fn hn h
def AH {y:V}{u:Value}{Q:Unit->Shared->Prop}(I:133)(e:H a=some (.ins C dx fs))(c:Fe X.K C)(n:dZ X.K C f)(hl:fs.length < 1000)(ry:RelV y u)
  (h:∀s',Inv X ag σ (upd H a (.ins C dx (dU f y fs))) s'->Q () s'):wpAny 145 A (setAttr (.ref a) f u) Q E s:=by
 obtain⟨mA,O,r,wi,_,ho⟩:=xH I.cu e;have hz:(fs.map 82).length<=sizeLine:=by rw [au,mj];omega
 refine J0 I.yY O c.sa c.po n.QP c.hd wi hz λh' O' sb=>h _ ?_;have hd:∃o,h'.get? dx=some o:=let ⟨o,_,_,e',_⟩:=O'.ns;⟨o,e'⟩;refine I.write (x:=a) (e:=dx) (by rw [e];exact True.intro) (.inr ho) (λb q hb z=>(sb.2 b hb).trans z) hd ?_;refine⟨by rw [aj O.ne];exact ho,?_,O.ne,O'.obj,_,O'.ns,λg=>?_,λg hg=>?_⟩
 .have:=pY f y fs;omega
 .show jW ((dU f y fs).lookup g) (if g=f then some u else mA g);rw [pX];by_cases q:g=f
  .rw [aw q,aw q];exact ry
  rw [ar q,ar q];exact r g
 by_cases q:g=f
 .rw [q];exact(pz f y fs).1
 refine(pz f y fs).2 g (wi g λz=>hg ?_);show (if g=f then some u else mA g)=none;rw [ar q];exact z
def Inv.made (I:133):Inv X ag σ (upd (upd H s.heap.objs.size (.own (s.heap.objs.size+1))) (s.heap.objs.size+1) (.ins C s.heap.objs.size []))
  { s with heap:=(s.heap.push PySem.W.emptyDict).push (PySem.W.instObj C s.heap.objs.size) }:=by
 have e1:(s.heap.push PySem.W.emptyDict).get? s.heap.objs.size=some PySem.W.emptyDict:=dA s.heap rfl;have e2:((s.heap.push PySem.W.emptyDict).push (PySem.W.instObj C s.heap.objs.size)).get? (s.heap.objs.size+1)=some (PySem.W.instObj C s.heap.objs.size):=by
  have:=dA (s.heap.push PySem.W.emptyDict) (o:=PySem.W.instObj C s.heap.objs.size) rfl;rwa [oJ] at this
 have e3:(s.heap.push PySem.W.emptyDict).Ns s.heap.objs.size (λ_=>none):=⟨PySem.W.emptyDict,#[],_,e1,rfl,(λe he=>absurd he 135),λ_=>rfl⟩;have I1:=I.laid (a:=s.heap.objs.size) (o:=.own (s.heap.objs.size+1)) (h':=s.heap.push PySem.W.emptyDict) (t':=s.toks) (λb u q=>b9 _ q) (aG _) ⟨_,e1⟩;refine I1.laid (a:=s.heap.objs.size+1) (o:=.ins C s.heap.objs.size []) (t':=s.toks) (λb u q=>b9 _ q) (Nat.le_of_eq (oJ _ _)) ?_;have ne:s.heap.objs.size≠s.heap.objs.size+1:=bU (lQ _);refine⟨by rw [aj ne,ae],gp _,ne,e2,λ_=>none,(Heap.Ns1.of_empty e3).at λo q=>b9 _ q,λ_=>True.intro,λy hy=>absurd rfl hy⟩
def LK {prog:Program}{w:World}{env:Env}{e:Expr}{f:Str}{pos:Pos}{s:Shared}{Q:z0b}(hb:attributeBase e f env (eval e env)=eval e env)
  (h:wpAny 150 A (eval e env) (λo s₁=>wpAny 150 A (getAttr o f true) Q E s₁) E s):wpAny 150 A (eval (.Attribute e f pos) env) Q E s :=
 Attribute_any_ h (by rw [arm_eval_Attribute,hb])
end
inductive Ui (K:bp)(H:Hp)(f:Str)(x:V)(R:V->Prop):Prop
|mk(a C dx:Addr)(fs:List (Str×V))(v:V)(e:x=.ref a)(h:H a=some (.ins C dx fs))(c:Fe K C)(n:dZ K C f)(l:fs.lookup f=some v)(q:R v)
inductive XSf (K:bp)(H:Hp)(f:Str)(x:V)(R:Addr->Addr->Addr->List (Str×V)->Prop):Prop
|mk(a C dx:Addr)(fs:List (Str×V))(e:x=.ref a)(h:H a=some (.ins C dx fs))(c:Fe K C)(n:dZ K C f)(l:fs.length < 1000)(q:R a C dx fs)
def QY (K:bp)(ta:TE)(f:Str):TE:=λσ H Q=>ta σ H λx H1=>Ui K H1 f x λv=>Q v H1
def WQ (K:bp)(ta tv:TE)(f:Str):TS:=λD σ H=>tv σ H λy H1=>ta σ H1 λx H2=>XSf K H2 f x λa C dx fs=>D.nx σ (upd H2 a (.ins C dx (dU f y fs)))
section
variable {X:Cx}{o e value:Expr}{f:Str}{pos pos' wM:Pos}{ta tv:TE}
def dr (he:PE X e ta)(hb:attributeBase e f X.env (eval e X.env)=eval e X.env):PE X (.Attribute e f pos) (QY X.K ta f):=by
 intro ag s σ H Q I h;refine LK hb (dB (he ag s σ H _ I h) λu s1 bI=>?_);obtain⟨x,H1,I1,rx,a,C,dx,fs,v,ex,ea,c,n,l,q⟩:=bI;subst ex;obtain rfl:u=Value.ref a:=rx;exact BM I1 ea c n l λu' s2 I2 ru=>⟨v,H1,I2,ru,q⟩
def gU (ha:PE X o ta)(hv:PE X value tv)(hs:swapsWith value (some (.Attribute o f pos')) pos.line X.env=pure false):PS X (.Assign [.Attribute o f pos'] value pos) (WQ X.K ta tv f):=by
 intro ag s σ H D I h;refine plainObj_wpAny_Assign_Attribute (dB (hv ag s σ H _ I h) λu s1 bI=>?_) hs;obtain⟨y,H1,I1,ry,q⟩:=bI;refine dB (ha ag s1 σ H1 _ I1 q) λov s2 bI=>?_;obtain⟨x,H2,I2,rx,a,C,dx,fs,ex,ea,c,n,l,q2⟩:=bI;subst ex;obtain rfl:ov=Value.ref a:=rx;exact AH I2 ea c n l ry λs3 I3=>⟨σ,_,I3,q2⟩
def Mr {pl:Sem Bool}{m:Str}{apos:Pos}{args:z0r}{ag:z0e}{s:Shared}{σ:St}{H:Hp}{Q:z0b}{te:TE}(he:PE X e te)(I:133)
  (h:te σ H λx H1=>∃a C dx fs g,x=.ref a/\H1 a=some (.ins C dx fs)/\Fe X.K C/\Meth X.K C m g/\fs.lookup m=none /\
   ∀s1,Inv X ag σ H1 s1->wpAny 145 X.A (callWith pos (.ref g) [.ref a] (backTo pos (starEach args X.env)) (backToKw pos (keywordEach [] X.env))) Q X.xe s1)
  (ht:eval (.Call (.Attribute e m apos) args [] pos) X.env=(do
   let ov <-eval e X.env
   standAt apos.atName
   let (f,first) <-holding [ov] (getMethod ov m pl)
   callWith pos f first (backTo pos (starEach args X.env)) (backToKw pos (keywordEach [] X.env)))) :
  wpAny 145 X.A (eval (.Call (.Attribute e m apos) args [] pos) X.env) Q X.xe s:=by
 refine PySem.W.methodCall_KW (pl:=pl) (dB (he ag s σ H _ I h) λu s1 bI=>?_) ht;obtain⟨x,H1,I1,rx,a,C,dx,fs,g,ex,ea,c,k,l,q⟩:=bI;subst ex;obtain rfl:u=Value.ref a:=rx;exact mV I1 ea c k l (q s1 I1)
end
section
variable {X:Cx}{ag:z0e}{σ:St}{H:Hp}{s:Shared}{A:Around}{E:z0b}{Q:z0b}{c:Value}{b:Bool}
end
structure gC (k:Nat)(A:Around):Prop where
 hd:A.handled=none
 dp:A.depth+3 * k+5 < recursionLimit
 un:A.units+16 * k+200 < cLine
 gd:A.guards=some []
def gC.mono {j k:Nat}{A:Around}(r:gC k A)(h:j<=k):gC j A:=⟨r.hd,by have:=r.dp;omega,by have:=r.un;omega,r.gd⟩
theorem gC.deeper {k:Nat}{A:Around}(r:gC (k+1) A)(env:Env):gC k (A.deeper env) :=
 ⟨r.hd,by have:=r.dp;show A.depth+1+3 * k+5 < _;omega,by have:=r.un;show A.units+3+16 * k+200 < _;omega,r.gd⟩
def Bo {A:Around}{C:Addr}{us:z0n}{kw:z0d}:(A.under (.builtin "type.__call__" ⟨.ref C::us,kw⟩)).depth=A.depth+1:=by
 first | rfl | simp [Around.under,Code.weight,Code.isCreation,Code.isGuard,Code.isCaller,Code.frames,Code.isFrame,guardIds]
def Bn {A:Around}{C:Addr}{us:z0n}{kw:z0d}:(A.under (.builtin "type.__call__" ⟨.ref C::us,kw⟩)).units=A.units+1:=by
 first | rfl | simp [Around.under,Code.cUnits,Code.frames,Code.isFrame]
def yX {A:Around}{C:Addr}{us:z0n}{kw:z0d}:(A.under (.builtin "type.__call__" ⟨.ref C::us,kw⟩)).guards=A.guards:=by
 first | rfl | simp [Around.under,Code.guards,Code.isGuard,guardIds,pushGuards]
def gC.make {k:Nat}{A:Around}(r:gC (k+1) A)(C:Addr)(us:z0n)(kw:z0d):gC k (A.under (.builtin "type.__call__" ⟨.ref C::us,kw⟩)) :=
 ⟨r.hd,by have:=r.dp;rw [Bo];omega,by have:=r.un;rw [Bn];omega,by rw [yX];exact r.gd⟩
theorem gC.depth {k:Nat}{A:Around}(r:gC k A):A.depth < recursionLimit:=by have:=r.dp;omega
theorem gC.units {k:Nat}{A:Around}(r:gC k A):A.units+64 < cLine:=by have:=r.un;omega
def qj:TA:=λ_ H Q=>Q [] H
def gQ (ta:TE)(tr:TA):TA:=λσ H Q=>ta σ H λx H1=>tr σ H1 λxs H2=>Q (x::xs) H2
section
variable {X:Cx}{e:Expr}{es:z0r}{te:TE}{t:TA}{pos:Pos}
def ak:PA X [] qj:=λ_ _ _ _ H Q I h=>Calls.spliced_nil ⟨[],H,I,.nil,h⟩
def ab (ha:PE X e te)(hr:PA X es t)(hs:218:=by rfl):PA X (e::es) (gQ te t):=by
 intro pos ag s σ H Q I h;rw [hs];show wpAny _ _ (spliced ((false,eval e X.env)::backTo pos (starEach es X.env))) _ _ s;refine oS (dB (ha ag s σ H _ I h) λu s1 bI=>?_);obtain⟨x,H1,I1,r1,q1⟩:=bI;refine dB (hr pos ag s1 σ H1 _ I1 q1) λus s2 bI=>?_;obtain⟨xs,H2,I2,r2,q2⟩:=bI;exact⟨x::xs,H2,I2,.cons r1 r2,q2⟩
def uu (t:TA):TE:=λσ H Q=>t σ H λxs H1=>xs.length<=sizeLine/\∀p,H1 p=none->Q (.ref p) (upd H1 p (.tup xs))
def QW (t:TA):TE:=λσ H Q=>t σ H λxs H1=>xs.length<=sizeLine/\∀p,H1 p=none->Q (.ref p) (upd H1 p (.lst xs))
def bW {x1}(h:PA X es t):PE X (.Tuple es x1 pos) (uu t):=by
 intro ag s σ H Q I hq;refine wpAny_Tuple_spliced (dB (h pos ag s σ H _ I hq) λus s1 bI=>?_);obtain⟨xs,H1,I1,r,z,q⟩:=bI;refine⟨by rw [<-r.length];exact z,?_⟩;have hf:H1 s1.heap.objs.size=none:=I1.cu.fresh (aG _);refine⟨.ref s1.heap.objs.size,upd H1 s1.heap.objs.size (.tup xs),I1.laid (t':=s1.toks) (λb u e=>b9 _ e) (aG _) ?_,rfl,q _ hf⟩;exact⟨z,us,r,⟨_,dA _ rfl,rfl,_,rfl⟩⟩
def bM (h:PA X es t):PE X (.List es pos) (QW t):=by
 intro ag s σ H Q I hq;refine wpAny_List_spliced (dB (h pos ag s σ H _ I hq) λus s1 bI=>?_);obtain⟨xs,H1,I1,r,z,q⟩:=bI;refine⟨by rw [<-r.length];exact z,?_⟩;have hf:H1 s1.heap.objs.size=none:=I1.cu.fresh (aG _);refine⟨.ref s1.heap.objs.size,upd H1 s1.heap.objs.size (.lst xs),I1.laid (t':=s1.toks) (λb u e=>b9 _ e) (aG _) ?_,rfl,q _ hf⟩;exact⟨z,us,0,r,dA _ rfl⟩
end
abbrev Sp:=List V->Hp->VK->XK->Prop
abbrev Ff:=List Env->Hp->Shared->XK->Value->Shared->Prop
structure zZ (P:Program)(w:World)(K:bp)(mg:z0c)(base:Heap)(A:Around)(outer:List Env)(s:Shared)(H:Hp):Prop where
 frames:A.frames=some outer
 mod:Mod K mg base
 bs:∀b o,base.get? b=some o->158/\H b=none
 LI:base.objs.size<=s.heap.objs.size
 qv:s.heap.FunFrames base outer
 OY:∀b∈EJ outer,H b=none
 cu:nh P w H s.heap
 bare:AllBare s.gens
def CE (outer:List Env)(P:Program)(w:World)(H:Hp)(s:Shared)(Q:VK)(u:Value)(s':Shared):Prop :=
 ∃v H',s'.os=s.os/\AllBare s'.gens/\Un (EJ outer) [] H H' s.heap s'.heap/\nh P w H' s'.heap/\RelV v u/\Q v H'
def CR (CX:Ff)(outer:List Env)(P:Program)(w:World)(H:Hp)(s:Shared)(Q:VK)(E:XK)(r:Result)(s':Shared):Prop :=
 match r with
 | .ok (.ret u)=>CE outer P w H s Q u s'
 | .ok _=>False
 | .error e=>CX outer H s E e s'
structure bR (P:Program)(w:World)(K:bp)(mg:z0c)(base:Heap)(CX:Ff) (k:Nat)(f:Addr)(fd:FuncData) (ps:z0t)(sp:Sp):Prop where
 len:∀vs H Q E,sp vs H Q E->vs.length=ps.length
 run:∀(A:Around)(outer:List Env)(s:Shared)(H:Hp)(args:Args)(us:z0n)(vs:List V)(Q:VK)(E:XK),gC k A->zZ P w K mg base A outer s H->BindsTo s fd args (ps.zip us)->bF vs us->sp vs H Q E ->
  codeAny (model P w) A (.call (.ref f) args) (CR CX outer P w H s Q E) s
theorem bR.mono {P:Program}{w:World}{K:bp}{mg:z0c}{base:Heap}{CX:Ff}{j k:Nat}{f:Addr}{fd:FuncData}{ps:z0t}{sp:Sp}(F:bR P w K mg base CX j f fd ps sp)(h:j<=k) :
  bR P w K mg base CX k f fd ps sp:=⟨F.len,λA outer s H args us vs Q E hr=>F.run A outer s H args us vs Q E (hr.mono h)⟩
def zZ.make {P:Program}{w:World}{K:bp}{mg:z0c}{base:Heap}{A:Around}{outer:List Env}{s:Shared}{H:Hp}(e:zZ P w K mg base A outer s H)(C:Addr)(us:z0n)(kw:z0d) :
  zZ P w K mg base (A.under (.builtin "type.__call__" ⟨.ref C::us,kw⟩)) outer s H:=⟨by first | exact e.frames | (simpa [Around.under,Code.envs,Code.isFrame,pushEnvs] using e.frames),e.mod,e.bs,e.LI,e.qv,e.OY,e.cu,e.bare⟩
section
variable {X:Cx}{ag:z0e}{σ:St}{H:Hp}{s s':Shared}
def Inv.O9 (I:133):zZ X.prog X.w X.K X.mg X.base X.A X.stack s H :=
 ⟨I.ok.frames,I.ok.mod,I.bs,gr I.ok.LI I.sz,I.stack,I.Cu,I.cu,I.bare⟩
def Inv.after {Q:VK}{u:Value}(I:133)(h:CE X.stack X.prog X.w H s Q u s'):EP X ag σ Q u s':=by
 obtain⟨v,H',os,bare,un,cu,r,q⟩:=h;obtain⟨hh,g,d,t,os'⟩:=s';obtain rfl:os'=s.os:=os;exact⟨v,H',I.call (h':=hh) (g':=g) (d':=d) (t':=t) (ch:=[]) un cu bare (λb z=>absurd z 135),r,q⟩
end
def L_ (sp:Sp)(dvs:List V)(E:XK)(t:TA):TE:=λσ H Q=>t σ H λvs H1=>sp (vs++dvs) H1 Q E
def LZ (C:Addr)(m:Str)(sp:Sp)(dvs:List V)(E:XK)(ta:TE)(t:TA):TE:=λσ H Q=>ta σ H λx H1=>∃a dx fs,x=.ref a/\H1 a=some (.ins C dx fs)/\fs.lookup m=none /\
 t σ H1 λvs H2=>sp (x::(vs++dvs)) H2 Q E
def QV (C:Addr)(sp:Sp)(dvs:List V)(E:XK)(t:TA):TE:=λσ H Q=>t σ H λvs H1=>∀x dx,H1 x=none->H1 dx=none->dx≠x ->
 sp (.ref x::(vs++dvs)) (upd (upd H1 dx (.own x)) x (.ins C dx [])) (λv H2=>v=.d0/\Q (.ref x) H2) E
def Binds (K:bp)(fd:FuncData) (ps:z0t)(ds:z0n):Prop :=
 ∀(s:Shared)(us:z0n),K.In s.heap->(us++ds).length=ps.length->BindsTo s fd ⟨us,[]⟩ (ps.zip (us++ds))
def Binds.all {K:bp}{fd:FuncData}{ps:z0t}(h:∀us:z0n,us.length=ps.length->bindArgs fd ⟨us,[]⟩=pure (ps.zip us)):Binds K fd ps []:=λs us _ hl=>by
 rw [d_] at hl ⊢;exact .of_eq (h us hl)
def Passes (CX:Ff)(X:Cx)(E:XK):Prop:=∀(ag:z0e)(σ:St)(H:Hp)(s:Shared)(e:Value)(s':Shared),133->CX X.stack H s E e s'->X.xe e s'
section
variable {X:Cx}{CX:Ff}{k:Nat}{f C:Addr}{fd:FuncData}{ps:z0t}{sp:Sp}{dvs:List V}{ds:z0n}{E:XK}{x m:Str}{p pos apos:Pos}{e o:Expr}{es:z0r}{ta:TE}{t:TA}
def A1 {ag:z0e}{σ:St}{H:Hp}{s:Shared}{Q:VK}{us:z0n}{vs:List V}(F:bR X.prog X.w X.K X.mg X.base CX k f fd ps sp)(hr:gC k X.A)(hb:Binds X.K fd ps ds)(hd:bF dvs ds)(hx:Passes CX X E)
  (I:133)(r:bF vs us)(h:sp (vs++dvs) H Q E):wpAny 145 X.A (call (.ref f) us) (EP X ag σ Q) X.xe s:=by
 have r2:bF (vs++dvs) (us++ds):=r.append hd;have hl:(us++ds).length=ps.length:=by rw [<-r2.length];exact F.len _ _ _ _ h
 refine ki (codeAny_mono (F.run X.A X.stack s H ⟨us,[]⟩ (us++ds) (vs++dvs) Q E hr I.O9 (hb s us I.yY hl) r2 h) λr s' hq=>?_);cases r with
 | error e=>exact hx ag σ H s e s' I hq
 | ok fl =>
  cases fl with
  | ret u=>exact I.after hq
  | next=>exact False.elim hq
  | brk=>exact False.elim hq
  | cont=>exact False.elim hq
def Ku (F:bR X.prog X.w X.K X.mg X.base CX k f fd ps sp)(hr:gC k X.A)(hg:Gl X x)(hm:X.mg x=some (.ref f))(hk:PySem.W.keepIn X.K (.ref f)=true)(hb:Binds X.K fd ps ds)(hd:bF dvs ds)(hx:Passes CX X E)
  (ha:PA X (e::es) t)(ED:(x == ("__debug__":Str))=false:=by decide)(he:218:=by rfl)(C2:(backTo pos (starEach es X.env)).any 82=false:=by rfl) :
  PE X (.Call (.Name x p) (e::es) [] pos) (L_ sp dvs E t):=by
 intro ag s σ H Q I h;refine qV (xF I hg hm ?_ ED);refine PySem.W.callWith_K (h₀:=X.base) I.ok.mod.R9 hk (dB (ha pos ag s σ H _ I h) λus s1 bI=>?_) he C2;obtain⟨vs,H1,I1,r,q⟩:=bI;refine⟨I1.yY,?_⟩;exact A1 F hr hb hd hx I1 r q
def nZ {pl:Sem Bool}(he:PE X o ta)(c:Fe X.K C)(hm:Meth X.K C m f)(F:bR X.prog X.w X.K X.mg X.base CX k f fd ps sp)(hr:gC k X.A)(hb:Binds X.K fd ps ds)(hd:bF dvs ds)(hx:Passes CX X E)(ha:PA X (e::es) t)
  (yg:218:=by rfl)(C2:(backTo pos (starEach es X.env)).any 82=false:=by rfl)
  (ht:eval (.Call (.Attribute o m apos) (e::es) [] pos) X.env=(do
   let ov <-eval o X.env
   standAt apos.atName
   let (f,first) <-holding [ov] (getMethod ov m pl)
   callWith pos f first (backTo pos (starEach (e::es) X.env)) (backToKw pos (keywordEach [] X.env))):=by rfl) :
  PE X (.Call (.Attribute o m apos) (e::es) [] pos) (LZ C m sp dvs E ta t):=by
 intro ag s σ H Q I h;refine PySem.W.methodCall_KW (pl:=pl) (dB (he ag s σ H _ I h) λu s1 bI=>?_) ht;obtain⟨x,H1,I1,rx,a,dx,fs,ex,ea,l,q⟩:=bI;subst ex;obtain rfl:u=Value.ref a:=rx;refine mV I1 ea c hm l ?_;refine PySem.W.callWith_K (first:=[.ref a]) (h₀:=X.base) I.ok.mod.R9 hm.kp (dB (ha pos ag s1 σ H1 _ I1 q) λus s2 bI=>?_) yg C2;obtain⟨vs,H2,I2,r,q2⟩:=bI;refine⟨I2.yY,?_⟩;exact A1 (us:=.ref a::us) (vs:=.ref a::vs) F hr hb hd hx I2 (.cons rfl r) q2
def G6 {pl:Sem Bool}(he:PE X o ta)(c:Fe X.K C)(hm:Meth X.K C m f)(F:bR X.prog X.w X.K X.mg X.base CX k f fd ps sp)(hr:gC k X.A)(hb:Binds X.K fd ps ds)(hd:bF dvs ds)(hx:Passes CX X E)
  (ht:eval (.Call (.Attribute o m apos) [] [] pos) X.env=(do
   let ov <-eval o X.env
   standAt apos.atName
   let (f,first) <-holding [ov] (getMethod ov m pl)
   callWith pos f first (backTo pos (starEach [] X.env)) (backToKw pos (keywordEach [] X.env))):=by rfl) :
  PE X (.Call (.Attribute o m apos) [] [] pos) (LZ C m sp dvs E ta qj):=by
 intro ag s σ H Q I h;refine PySem.W.methodCall_KW (pl:=pl) (dB (he ag s σ H _ I h) λu s1 bI=>?_) ht;obtain⟨x,H1,I1,rx,a,dx,fs,ex,ea,l,q⟩:=bI;subst ex;obtain rfl:u=Value.ref a:=rx;refine mV I1 ea c hm l ?_;exact PySem.W.callWith_K0 (first:=[.ref a]) I1.yY hm.kp (A1 (us:=[.ref a]) (vs:=[.ref a]) F hr hb hd hx I1 (.cons rfl .nil) q)
structure Mk (K:bp)(C f:Addr):Prop where
 makes:PySem.W.makesIn K C=true
 init:PySem.W.findIn K (.ref C) "__init__"=some (some (.ref f))
 fn:PySem.W.isFn K (.ref f)=true
 kp:PySem.W.keepIn K (.ref C)=true
def Gx {ag:z0e}{σ:St}{H:Hp}{s:Shared}{Q:VK}{us:z0n}{vs:List V}(M:Mk X.K C f)(F:bR X.prog X.w X.K X.mg X.base CX k f fd ps sp)(hr:gC (k+1) X.A)(hb:Binds X.K fd ps ds)(hd:bF dvs ds)
  (hx:Passes CX X E)(I:133)(r:bF vs us)
  (h:∀x dx,H x=none->H dx=none->dx≠x->sp (.ref x::(vs++dvs)) (upd (upd H dx (.own x)) x (.ins C dx [])) (λv H2=>v=.d0/\Q (.ref x) H2) E) :
  wpAny 145 X.A (call (.ref C) us) (EP X ag σ Q) X.xe s:=by
 have hq:=h (s.heap.objs.size+1) s.heap.objs.size (I.cu.fresh (oE _)) (I.cu.fresh (aG _)) (bU (lQ _));have I2:=Inv.made (C:=C) I;have r2:bF (V.ref (s.heap.objs.size+1)::(vs++dvs)) (Value.ref (s.heap.objs.size+1)::(us++ds)):=.cons rfl (r.append hd);have hl:(Value.ref (s.heap.objs.size+1)::us++ds).length=ps.length:=by
  have e:=r2.length;rw [F.len _ _ _ _ hq] at e;exact e.symm
 refine ki (HY (f:=f) I.yY M.makes M.init (beq_iff_eq.mp M.fn) (codeAny_mono (F.run _ X.stack _ _ ⟨Value.ref (s.heap.objs.size+1)::us,[]⟩ (Value.ref (s.heap.objs.size+1)::(us++ds)) _ _ E (hr.make C us [])
  (I2.O9.make C us []) (hb _ (Value.ref (s.heap.objs.size+1)::us) I2.yY hl) r2 hq) λr s' Qd=>?_))
 cases r with
 | error e=>exact hx ag σ _ _ e s' I2 Qd
 | ok fl =>
  cases fl with
  | ret u =>
   obtain⟨v,H',I3,rv,ev,q3⟩:=I2.after Qd;subst ev;exact⟨rv,⟨V.ref (s.heap.objs.size+1),H',I3,rfl,q3⟩⟩
  | next=>exact False.elim Qd
  | brk=>exact False.elim Qd
  | cont=>exact False.elim Qd
def xu (M:Mk X.K C f)(F:bR X.prog X.w X.K X.mg X.base CX k f fd ps sp)(hr:gC (k+1) X.A)(hg:Gl X x)(hm:X.mg x=some (.ref C))(hb:Binds X.K fd ps ds)(hd:bF dvs ds)(hx:Passes CX X E)
  (ha:PA X (e::es) t)(ED:(x == ("__debug__":Str))=false:=by decide)(he:218:=by rfl)(C2:(backTo pos (starEach es X.env)).any 82=false:=by rfl) :
  PE X (.Call (.Name x p) (e::es) [] pos) (QV C sp dvs E t):=by
 intro ag s σ H Q I h;refine qV (xF I hg hm ?_ ED);refine PySem.W.callWith_K (h₀:=X.base) I.ok.mod.R9 M.kp (dB (ha pos ag s σ H _ I h) λus s1 bI=>?_) he C2;obtain⟨vs,H1,I1,r,q⟩:=bI;refine⟨I1.yY,?_⟩;exact Gx M F hr hb hd hx I1 r q
end
section
variable {X:Cx}{CX:Ff}{k:Nat}{f C:Addr}{fd:FuncData}{ps ks:z0t}{sp:Sp}{E:XK}{x m:Str}{p pos apos aaA:Pos}{e o:Expr}{es:z0r}{kws:List Keyword}{te ta:TE}{t tk:TA}{nm:Option Str}
variable {g:z0n->z0n->z0n}{gV:List V->List V->List V}
end
structure aK (N P:z0t)(sc:Scope):Prop where
 kind:sc.kind=.function
 co:sc.isCoroutine=false
 gen:sc.isGenerator=false
 nd:N.Nodup
 pre:N.take P.length=P
 par:∀x∈P,sc.names.lookup x=some .local\/sc.names.lookup x=some .cell
 Oc:∀y∈sc.names,y.2≠.free
def iG {N P:z0t}{sc:Scope}(a:sc.kind=.function)(b:sc.isCoroutine=false)(c:sc.isGenerator=false)(d:N.take P.length=P)(e:N.Nodup/\(∀x∈P,sc.names.lookup x=some .local\/sc.names.lookup x=some .cell)/\∀y∈sc.names,y.2≠.free):aK N P sc:=⟨a,b,c,e.1,d,e.2.1,e.2.2⟩
theorem vP {kindOf:Str->Option NameKind}{x:Str}:∀{binds:z0d}{m:z0c},(∀v,(x,v)∉binds)->bindL kindOf binds m x=m x
 | [],_,_=>rfl
 | (n,v)::r,m,h=>by
  unfold bindL;rw [vP λw hw=>h w (cS _ hw)]
  split
  .have:x≠n:=by rintro rfl;exact h v cR
   simp [this]
  rfl
theorem vR {kindOf:Str->Option NameKind}{x:Str}:∀{binds:z0d}{m:z0c},(∀v,(x,v)∉binds)->bindC kindOf binds m x=m x
 | [],_,_=>rfl
 | (n,v)::r,m,h=>by
  unfold bindC;rw [vR λw hw=>h w (cS _ hw)]
  split
  .rfl
  have:x≠n:=by rintro rfl;exact h v cR
  simp [this]
theorem vQ {kindOf:Str->Option NameKind}{x:Str}{v:Value}:∀{P:z0t}{vs:z0n}{i:Nat}{m:z0c},P.Nodup->P[i]?=some x->vs[i]?=some v->kindOf x=some .local ->
  bindL kindOf (P.zip vs) m x=some v
 | [],_,_,_,_,h,_,_=>by simp at h
 | _::_,[],_,_,_,_,h,_=>by simp at h
 | p::P,w::vs,0,m,nd,h1,h2,hk=>by
  simp at h1 h2;subst h1;subst h2;show bindL kindOf ((p,w)::P.zip vs) m p=_;unfold bindL;rw [vP λv hv=>(g_.mp nd).1 (List.of_mem_zip hv).1,aw hk];simp
 | p::P,w::vs,i+1,m,nd,h1,h2,hk=>by
  show bindL kindOf ((p,w)::P.zip vs) m x=_;unfold bindL;exact vQ (i:=i) (g_.mp nd).2 (by simpa using h1) (by simpa using h2) hk
theorem vS {kindOf:Str->Option NameKind}{x:Str}{v:Value}:∀{P:z0t}{vs:z0n}{i:Nat}{m:z0c},P.Nodup->P[i]?=some x->vs[i]?=some v->kindOf x≠some .local ->
  bindC kindOf (P.zip vs) m x=some v
 | [],_,_,_,_,h,_,_=>by simp at h
 | _::_,[],_,_,_,_,h,_=>by simp at h
 | p::P,w::vs,0,m,nd,h1,h2,hk=>by
  simp at h1 h2;subst h1;subst h2;show bindC kindOf ((p,w)::P.zip vs) m p=_;unfold bindC;rw [vR λv hv=>(g_.mp nd).1 (List.of_mem_zip hv).1,ar hk];simp
 | p::P,w::vs,i+1,m,nd,h1,h2,hk=>by
  show bindC kindOf ((p,w)::P.zip vs) m x=_;unfold bindC;exact vS (i:=i) (g_.mp nd).2 (by simpa using h1) (by simpa using h2) hk
def start (N:z0t)(vs:List V):St:=vs.map some++List.replicate (N.length - vs.length) none
def pJ (CX:Ff)(P:Program)(w:World)(K:bp)(mg:z0c)(base:Heap) (N:z0t)(qual:Str)(scope:Scope)(f:Addr)(cd:Value)(A:Around)(outer:List Env)(s:Shared)(H:Hp)(E:XK):Cx where
 prog:=P
 w:=w
 K:=K
 mg:=mg
 base:=base
 A:=A.deeper (envOfC qual scope s.heap.objs.size f cd)
 N:=N
 s₀:=s
 H₀:=H
 env:=envOfC qual scope s.heap.objs.size f cd
 outer:=outer
 stack:=envOfC qual scope s.heap.objs.size f cd::outer
 ex:=[]
 calm:=true
 fn:=λ_=>true
 pn:=[]
 xe:=λe s'=>wpAny (model P w) (A.deeper (envOfC qual scope s.heap.objs.size f cd)) (leaving (envOfC qual scope s.heap.objs.size f cd) e) (λ_ Rm=>CX outer H s E e Rm) (λe' Rm=>CX outer H s E e' Rm) s'
def zM {sc:Scope}{n:Nat}{x:Str}(h:sc.names.lookup x=some .cell):∃c,(cellsFrom n sc.names []).lookup x=some c:=by
 have q:=PySem.W.cellsFrom_some sc.names n [] (.inl h);exact nj.mp q
def vk {CX:Ff}{P:Program}{w:World}{K:bp}{mg:z0c}{base:Heap}{N ps:z0t}{qual:Str}{scope:Scope}{f:Addr}{cd:Value}{A:Around}{outer:List Env}{s s1:Shared}{H:Hp}{E:XK}{us:z0n}{vs:List V}
  (S:aK N ps scope)(hd:A.handled=none)(e0:zZ P w K mg base A outer s H)(hl:vs.length=ps.length)(r:bF vs us)
  (x:InCallC s s.heap.objs.size (bindL (envOfC qual scope s.heap.objs.size f cd).kindOf (ps.zip us) λ_=>none) (cellsFrom (s.heap.objs.size+1) scope.names []) (bindC (envOfC qual scope s.heap.objs.size f cd).kindOf (ps.zip us) λ_=>none) s1) :
  Inv (pJ CX P w K mg base N qual scope f cd A outer s H E) [] (start N vs) H s1:=by
 have C2:ps.length<=N.length:=by have:=congrArg List.length S.pre;rw [dJ] at this;omega
 obtain⟨h1,tk,rfl,hk⟩:=x.done;have Xq:∀b:Addr,b∉(pJ CX P w K mg base N qual scope f cd A outer s H E).ex:=λb z=>absurd (show b∈([]:z0q) from z) 135;refine⟨⟨e0.mod,S.kind,rfl,rfl,aG _,λy z c h1 h2=>?_,λy hy=>?_,λy c _ h=>?_,λ_=>hd,Around.frames_deeper e0.frames,.inr ⟨rfl,rfl⟩,λb z=>absurd z (Xq b),e0.bs,e0.LI,λb _ _=>Xq b,λb z=>absurd z (Xq b),e0.qv,e0.OY⟩,
  rfl,e0.bare,Un.kept hk,⟨_,x.toInCall.ns,λi y v h1 h2 h3=>?_⟩,λy c h=>⟨_,x.cell y c h⟩,e0.cu.fresh (aG _),λy c h=>?_,λp hp=>absurd (show p∈([]:z0e) from hp) 135,e0.cu.kept hk,?_⟩
 .exact name_of_addr x.apart (rE h1) (rE h2)
 .have hy:scope.names.lookup y=some .cell\/scope.names.lookup y=some .free:=hy;rcases hy with hy | hy
  .exact zM hy
  exact absurd rfl (S.Oc _ (rE hy))
 .exact lL (x.above y c (rE h))
 .have hi:i < vs.length:=by
   unfold start at h2;by_cases hi:i < vs.length
   .exact hi
   rw [lR (by simpa using hi)] at h2;rw [List.getElem?_replicate] at h2
   split at h2 <;> cases h2
  have ha:vs[i]?=some v:=by
   unfold start at h2;rw [nq (by simpa using hi),a0] at h2;cases e:vs[i]? with
   | none=>rw [e] at h2;cases h2
   | some a=>rw [e] at h2;cases h2;rfl
  obtain⟨u,hu,rv⟩:=r.get ha;have hp:ps[i]?=some y:=by
   rw [<-S.pre,yj ∅];exact h1
  have ndP:ps.Nodup:=by rw [<-S.pre];exact S.nd.sublist (List.take_sublist _ _)
  refine⟨u,rv,?_⟩;rcases S.par y (cC hp) with k | k
  .exact .inl ⟨k,vQ ndP hp hu k⟩
  obtain⟨c,e⟩:=zM (n:=s.heap.objs.size+1) k;refine .inr ⟨.inl k,c,e,?_⟩;have q:=x.cell y c e;rw [vS ndP hp hu (by show scope.names.lookup y≠_;rw [k];decide)] at q;exact q
 .exact e0.cu.fresh (lL (x.above y c (rE h)))
 unfold start;show _=N.length;rw [a8,au,List.length_replicate];omega
def IJ {CX:Ff}{P:Program}{w:World}{K:bp}{mg:z0c}{base:Heap}{k:Nat}{f:Addr}{name qual:Str}{params:Arguments}{body:List Stmt}{scope:Scope}{dV kV doc pm d5 ct oc:Value}{an od:z0m}
  {yL:z0a}{N ps:z0t}{sp:Sp}(lk:K.lookup f=some ⟨oc,od,.func (PySem.W.fnOf name qual params body scope dV kV doc pm an d5 ct),yL⟩)(yh:PySem.W.codeIn K d5 qual=true)(S:aK N ps scope)
  (len:∀vs H Q E,sp vs H Q E->vs.length=ps.length)
  (jB:∀(A:Around)(outer:List Env)(s:Shared)(H:Hp)(vs:List V)(Q:VK)(E:XK),gC k (A.deeper (envOfC qual scope s.heap.objs.size f d5))->sp vs H Q E ->
   ∃t,Cd (pJ CX P w K mg base N qual scope f d5 A outer s H E) body t/\t { nx:=λ_ H'=>Q .d0 H',rt:=Q } (start N vs) H) :
  bR P w K mg base CX (k+1) f (PySem.W.fnOf name qual params body scope dV kV doc pm an d5 ct) ps sp:=by
 refine⟨len,λA outer s H args us vs Q E hr e0 hb r Fp=>?_⟩;have hl:=len _ _ _ _ Fp;have KX:K.In s.heap:=e0.mod.R9.keeps λb o e=>(e0.bs b o e).1;have lim:s.heap.NoLimit:=e0.mod.nolimit.keeps λb o e=>(e0.bs b o e).1;have jz:∀y∈ps.zip us,scope.names.lookup y.1=some .local\/(scope.names.lookup y.1=some .cell/\((cellsFrom (s.heap.objs.size+1) scope.names []).lookup y.1).isSome=true):=λ⟨n,v⟩ hy=>by
  rcases S.par n (List.of_mem_zip hy).1 with q | q
  .exact .inl q
  exact .inr ⟨q,PySem.W.cellsFrom_some _ _ _ (.inl q)⟩
 refine codeAny_call_function hr.depth (KX _ _ lk) rfl S.co S.gen rfl (PySem.W.codeRec_of KX yh) (hb _ _ _ _ ?_);refine wpAny_newFunctionEnv_cells S.kind jz λenv he s1 x=>?_;subst he;refine⟨lim.keeps x.toInCall.keep,codeAny_func ?_⟩;obtain⟨t,ht,hq⟩:=jB A outer s H vs Q E (hr.deeper _) Fp;have I:Inv (pJ CX P w K mg base N qual scope f d5 A outer s H E) [] (start N vs) H s1:=vk S hr.hd e0 hl r x;refine dS (ht [] s1 (start N vs) H _ I hq) (λfl s' hs=>?_) λe s' hs=>hs;have fin:∀{σ':St}{H':Hp}{v:V}{u:Value},Inv (pJ CX P w K mg base N qual scope f d5 A outer s H E) [] σ' H' s'->RelV v u->Q v H'->CE outer P w H s Q u s' :=
  λ{σ' H' v u} J rv q=>⟨v,H',J.os,J.bare,J.base,J.cu,rv,q⟩
 cases fl with
 | ret u =>
  obtain⟨v,σ',H',J,rv,q⟩:=hs;exact fin J rv q
 | next =>
  obtain⟨σ',H',J,q⟩:=hs;exact fin (v:=V.d0) (u:=Value.none) J rfl q
 | brk =>
  obtain⟨_,_,_,q⟩:=hs;exact False.elim q
 | cont =>
  obtain⟨_,_,_,q⟩:=hs;exact False.elim q
section
variable {X:Cx}{x:Str}{p pos:Pos}{e:Expr}{es:z0r}{t:TA}{id T:String}{r:List V->Hp->VK->Prop}
def tCB (r:List V->Hp->VK->Prop)(t:TA):TE:=λσ H Q=>t σ H λvs H1=>r vs H1 Q
def aP (hc:iV X (.builtin id) r)(hg:Gl X x)(hm:X.mg x=none)(hv:bootBuiltins x=some (.builtin id))(ha:PA X (e::es) t)(hn:x ≠ "__name__" := by decide)(ED:(x == ("__debug__":Str))=false:=by decide)
  (he:218:=by rfl)(C2:(backTo pos (starEach es X.env)).any 82=false:=by rfl):PE X (.Call (.Name x p) (e::es) [] pos) (tCB r t):=by
 intro ag s σ H Q I h;refine qV (jR I hg hm hv ?_ hn ED);refine PyProof.Rows.callWith_builtin1 (dB (ha pos ag s σ H _ I h) λus s1 bI=>?_) he C2;obtain⟨vs,H1,I1,r1,q1⟩:=bI;exact hc ag s1 σ H1 vs us Q I1 r1 q1
def bL (hc:iV X (.type T) r)(hg:Gl X x)(hm:X.mg x=none)(hv:bootBuiltins x=some (.type T))(ha:PA X (e::es) t)(hn:x ≠ "__name__" := by decide)(ED:(x == ("__debug__":Str))=false:=by decide)
  (he:218:=by rfl)(C2:(backTo pos (starEach es X.env)).any 82=false:=by rfl):PE X (.Call (.Name x p) (e::es) [] pos) (tCB r t):=by
 intro ag s σ H Q I h;refine qV (jR I hg hm hv ?_ hn ED);refine wD (dB (ha pos ag s σ H _ I h) λus s1 bI=>?_) he C2;obtain⟨vs,H1,I1,r1,q1⟩:=bI;exact hc ag s1 σ H1 vs us Q I1 r1 q1
end
end L2
namespace HT
open PySem PyProof.Rows
section
open PySem.SeqAt
open PySem.AutoSeq1 (wpAny_loadPart')
open PySem.MeetsSeq PySem.MeetsSeq2 PySem.MeetsSeq3
end
section
variable {prog:Program}{w:World}{A:Around}{E:z0b}{s:Shared}
def LH {t b:Addr}{vs ws:z0n}{Q:z0b}(ht:IsTup s.heap t vs.toArray)(hb:IsTup s.heap b ws.toArray)(hv:vs≠[])
  (h1:ws=[]->Q (.ref t) s)(h2:ws≠[]->Q (180) { s with heap:=s.heap.push { cls:=.type "tuple",data:=.seq (vs++ws).toArray } })
  (hsz:vs.length+ws.length<=sizeLine):wpAny 150 A (binaryOp .Add (.ref t) (.ref b)) Q E s:=by
 obtain⟨⟨cls,dd,data,sl⟩,ho,hc,n,hd⟩:=id ht;obtain⟨⟨aaa,Qx,data2,UQ⟩,EA,Ta,n2,hd2⟩:=id hb;simp only at hc hd Ta hd2;subst hc hd Ta hd2;have e:vs.toArray++ws.toArray=(vs++ws).toArray:=85
 by_cases hw:ws=[]
 .exact concat_meets ⟨_,ho,rfl⟩ ⟨_,EA,rfl⟩ noFill_tuple_add seq_tuple_add Aj Am (Ap _ _)
   (tuple_addW1 t b vs.toArray ws.toArray n n2 dd Qx sl UQ (by simpa using hv) (by simp [hw])) ⟨ho,EA,h1 hw⟩
 refine concat_meets ⟨_,ho,rfl⟩ ⟨_,EA,rfl⟩ noFill_tuple_add seq_tuple_add Aj Am (Ap _ _)
  (tuple_addW2 t b vs.toArray ws.toArray n n2 dd Qx sl UQ (by simpa using hv) (by simpa using hw) (by rw [cH,cH];exact hsz)) ⟨ho,EA,?_⟩
 rw [e];exact h2 hw
def fM (n d:Nat):z0p->Nat
 | none=>d
 | some v=>if v < 0 then (v+(n:Int)).toNat else min v.toNat n
def nV (n d:Nat):fM n d none=d:=rfl
def lF (n d k:Nat):fM n d (some (k:Int))=min k n:=by
 show (if (k:Int) < 0 then ((k:Int)+(n:Int)).toNat else min (k:Int).toNat n)=min k n;rw [ar ∅,ji]
def NF (n d:Nat)(hd:d<=n)(o:z0p):fM n d o<=n:=by
 cases o with
 | none=>exact hd
 | some v =>
  show (if v < 0 then (v+(n:Int)).toNat else min v.toNat n)<=n;by_cases hv:v < 0
  .rw [aw hv];omega
  rw [ar hv];exact Nat.min_le_right _ _
def Dm (v:Int) (n d:Nat):(if v < 0 then max (v+(n:Int)) 0 else min v (n:Int))=((fM n d (some v):Nat):Int):=by
 show (if v < 0 then max (v+(n:Int)) 0 else min v (n:Int))=(((if v < 0 then (v+(n:Int)).toNat else min v.toNat n):Nat):Int);by_cases hv:v < 0
 .simp only [aw hv];omega
 simp only [ar hv];omega
def Cb (lo hi:z0p) (n:Nat):Builtin.Slice.sliceAdjust lo hi 1 (n:Int)=(((fM n 0 lo:Nat):Int),((fM n n hi:Nat):Int)):=by
 have h1:¬((1:Int) < 0):=by omega
 unfold Builtin.Slice.sliceAdjust;simp only [h1,if_false];refine gN ?_ ?_
 .cases lo with
  | none=>rfl
  | some v=>exact Dm v n 0
 cases hi with
 | none=>rfl
 | some v=>exact Dm v n n
def A5 (i j:Nat):Builtin.Slice.slicePlaces (i:Int) (j:Int) 1=j - i:=by
 unfold Builtin.Slice.slicePlaces;have h1:(1:Int) > 0:=by omega
 simp only [h1,if_true,Int.ediv_one]
 split <;> omega
def r9 {v:Value}{o:z0p}{Q:z0p->Shared->Prop}(p:IsPart v o)(h:Q o s):wpAny 150 A (Builtin.Slice.slicePartIndex v) Q E s:=by
 cases p with
 | none=>exact slicePart_none h
 | int i t=>exact slicePart_int h
def jo {sl:Addr}{vl vu:Value}{lo hi:z0p}{n:Nat}{Q:Int×Int×Nat->Shared->Prop}(hs:s.heap.IsSliceOf sl vl vu .none)(pl:IsPart vl lo)(pu:IsPart vu hi)
  (h:Q (((fM n 0 lo:Nat):Int),1,fM n n hi - fM n 0 lo) s):wpAny 150 A (Builtin.Slice.sliceApplied (.ref sl) (pure (n:Int))) Q E s:=by
 obtain⟨os,OF,Vu,Ln⟩:=id hs;unfold Builtin.Slice.sliceApplied Builtin.Slice.sliceFields;refine aA (aA (je OF Ln (x:=vl) rfl (aA (je OF Ln (x:=vu) rfl (aA (je OF Ln (x:=.none) rfl (aH ?_)))))));refine aA (slicePart_none ?_);show wpAny _ _ (if ((1:Int) == 0)=true then _ else _) _ _ s;rw [ar nofun];refine aA (r9 pl (aA (r9 pu (aA (aH ?_)))));show wpAny _ _ (match Builtin.Slice.sliceAdjust lo hi 1 (n:Int) with | (lo,hi)=>pure (lo,(1:Int),Builtin.Slice.slicePlaces lo hi 1)) _ _ s
 rw [Cb lo hi n];show wpAny _ _ (pure (((fM n 0 lo:Nat):Int),(1:Int),Builtin.Slice.slicePlaces ((fM n 0 lo:Nat):Int) ((fM n n hi:Nat):Int) 1)) _ _ s;rw [A5];exact aH h
def G3 (xs:z0l) (i k:Nat):((List.range k).filterMap λ(m:Nat)=>xs[((i:Int)+(m:Int) * 1).toNat]?).toArray=((xs.toList.drop i).take k).toArray:=by
 have e:(λ(m:Nat)=>xs[((i:Int)+(m:Int) * 1).toNat]?)=λm=>xs[i+m]?:=by
  funext m
  have:((i:Int)+(m:Int) * 1).toNat=i+m:=by omega
  rw [this]
 rw [e];have:=pick_run xs i k;rw [List.filterMap_map] at this;have e2:((λx=>xs[x]?) ∘ λx=>i+x)=λm=>xs[i+m]?:=rfl;rw [e2] at this;rw [this]
def oi {t sl:Addr}{items:z0l}{vl vu:Value}{lo hi:z0p}{Q:z0b}(ht:IsTup s.heap t items)(hs:s.heap.IsSliceOf sl vl vu .none)(pl:IsPart vl lo)(pu:IsPart vu hi)
  (hw:¬(fM items.size 0 lo=0/\fM items.size items.size hi=items.size))
  (h:Q (180) { s with heap:=s.heap.push { cls:=.type "tuple",data:=.seq ((items.toList.drop (fM items.size 0 lo)).take (fM items.size items.size hi - fM items.size 0 lo)).toArray } })
  (hsz:items.size<=sizeLine):wpAny 150 A (getItem (.ref t) (.ref sl)) Q E s:=by
 have C1:sizeOk (.seq ((items.toList.drop (fM items.size 0 lo)).take (fM items.size items.size hi - fM items.size 0 lo)).toArray):=by
  show ((items.toList.drop (fM items.size 0 lo)).take (fM items.size items.size hi - fM items.size 0 lo)).toArray.size<=sizeLine;rw [cH,dJ,mz,qW];omega
 have hj:fM items.size items.size hi<=items.size:=NF _ _ (aG _) hi;obtain⟨os,OF,Vu,Ln⟩:=id hs;have Y3:s.TypeIs (.ref sl) "slice" := ⟨os,OF,Vu⟩;unfold getItem
 try with_reducible refine jZ ?_
 first | refine aA (aH ?_) | skip
 refine aA (wpAny_sequenceKey ht.typeIs nofun ?_);refine aA (pR (name:=Str.ofString "__getitem__") ht.typeIs uP
  (ka uP ht.typeIs entry_tuple_getitem ?_ (args_tuple_getitem _ _)))
 show wpAny _ _ (Builtin.Tuple.tupleItemsOf (.ref t) >>= _) _ _ s;refine aA (tupleItemsOf_ ht ?_);refine aA (i7 Y3 ?_);rw [aw nofun];refine aA (jo hs pl pu ?_);have hno:¬((((fM items.size 0 lo:Nat):Int) == 0 && (1:Int) == 1 && (fM items.size items.size hi - fM items.size 0 lo) == items.size)=true):=by
  intro q;rw [ni,ni] at q;have q1:((fM items.size 0 lo:Nat):Int)=0:=eq_of_beq q.1.1;have q2:fM items.size items.size hi - fM items.size 0 lo=items.size:=eq_of_beq q.2;exact hw ⟨∅,∅⟩
 show wpAny _ _ (if (((fM items.size 0 lo:Nat):Int) == 0 && (1:Int) == 1 && (fM items.size items.size hi - fM items.size 0 lo) == items.size)=true then _ else _) _ _ s;rw [ar hno,G3]
 first
  | exact aA (m:=Builtin.Tuple.tupleExact _) (j5 (aH ⟨_,rfl,aH h⟩) C1)
  | exact aA (m:=Builtin.Tuple.tupleExact _) (j5 (aA (aH (aH ⟨_,rfl,aH h⟩))) C1)
  | exact aA (aA (m:=Builtin.Tuple.tupleExact _) (j5 (aH (aH ⟨_,rfl,aH h⟩)) C1))
  | exact aA (aA (m:=Builtin.Tuple.tupleExact _) (j5 (aH ⟨_,rfl,aH h⟩) C1))
end
end HT
namespace L2
open PySem PySem.Spec PyProof.Rows
abbrev TO:=St->Hp->(z0p->Hp->Prop)->Prop
def PO (X:Cx)(e:Option Expr)(t:TO):Prop :=
 ∀(ag:z0e)(s:Shared)(σ:St)(H:Hp)(Q:z0p->Hp->Prop),133->t σ H Q ->
  wpAny 145 X.A (evalPart e X.env) (λu s'=>∃o H',Inv X ag σ H' s'/\IsPart u o/\Q o H') X.xe s
def JY:TO:=λ_ H Q=>Q none H
def QS (t:TE):TO:=λσ H Q=>t σ H λx H1=>XI1 x λi=>Q (some i) H1
def intsAre_of {ns:z0u}:∀{us:z0n},bF (ns.map V.int) us->IntsAre us ns:=by
 induction ns with
 | nil=>intro us r;rw [ml] at r;cases r;exact .nil
 | cons n ns ih =>
  intro us r;rw [cD] at r;cases r with
  | cons r1 r2 =>
   obtain⟨t,e⟩:=r1;subst e;exact .cons n t (ih r2)
section
variable {X:Cx}{e:Expr}{te:TE}{lo hi:Option Expr}{tl th:TO}{pos p2:Pos}
def gW:PO X none JY:=by
 intro ag s σ H Q I h;rw [evalPart_none];exact aH ⟨none,H,I,.none,h⟩
def eU (h:PE X e te):PO X (some e) (QS te):=by
 intro ag s σ H Q I hw;rw [evalPart_some];refine dB (h ag s σ H _ I hw) λu s1 bI=>?_;obtain⟨x,H1,I1,r1,q1⟩:=bI;obtain⟨i,rfl,q⟩:=q1;obtain⟨t,rfl⟩:=r1;exact⟨some i,H1,I1,.int i t,q⟩
def Ul (X:Cx)(r:V->z0p->z0p->Hp->VK->Prop):Prop :=
 ∀(ag:z0e)(s:Shared)(σ:St)(H:Hp)(x:V)(v vl vu:Value)(lo hi:z0p)(sl:Addr)(Q:VK),133->RelV x v->s.heap.IsSliceOf sl vl vu .none->IsPart vl lo->IsPart vu hi->r x lo hi H Q ->
  ∃T id,typeLookup (.type T) "__getitem__"=pure (some (.builtin id))/\s.TypeIs v T/\wpAny 145 X.A (getItem v (.ref sl)) (EP X ag σ Q) X.xe s
def tSl (r:V->z0p->z0p->Hp->VK->Prop)(te:TE)(tl th:TO):TE:=λσ H Q=>te σ H λx H1=>tl σ H1 λl H2=>th σ H2 λu H3=>r x l u H3 Q
def dW {r:V->z0p->z0p->Hp->VK->Prop}(hr:Ul X r)(he:PE X e te)(hl:PO X lo tl)(hu:PO X hi th):PE X (.Subscript e (.Slice lo hi none p2) pos) (tSl r te tl th):=by
 intro ag s σ H Q I h;refine Subscript_ (dB (he ag s σ H _ I h) λv s1 bI=>?_);obtain⟨x,H1,I1,r1,q1⟩:=bI;refine wpAny_Slice (dB (hl ag s1 σ H1 _ I1 q1) λvl s2 bI=>?_);obtain⟨l,H2,I2,pl,q2⟩:=bI;refine dB (hu ag s2 σ H2 _ I2 q2) λvu s3 bI=>?_;obtain⟨u,H3,I3,pu,q3⟩:=bI;rw [evalPart_none];refine aH ?_;have I4:Inv X ag σ H3 { s3 with heap:=s3.heap.push { cls:=.type "slice",data:=.fields #[vl,vu,.none] } }:=I3.kept (t':=s3.toks) λb ob q=>b9 _ q;obtain⟨T,id,hT,ht,hg⟩:=hr ag { s3 with heap:=s3.heap.push { cls:=.type "slice",data:=.fields #[vl,vu,.none] } } σ H3 x v vl vu l u s3.heap.objs.size Q I4 r1 (Heap.IsSliceOf.new ..) pl pu q3;show wpAny 145 X.A (subscriptTail e (.Slice lo hi none p2) v (.ref s3.heap.objs.size)) (EP X ag σ Q) X.xe { s3 with heap:=s3.heap.push { cls:=.type "slice",data:=.fields #[vl,vu,.none] } };exact tail_any (ops:=[.ref s3.heap.objs.size,v]) ht hT hg (by with_unfolding_all rfl)
def g8 (xs:List V)(lo hi:z0p):List V:=(xs.drop (HT.fM xs.length 0 lo)).take (HT.fM xs.length xs.length hi - HT.fM xs.length 0 lo)
def qb (xs:List V)(lo hi:z0p):(g8 xs lo hi).length<=xs.length:=by
 unfold g8;rw [dJ,mz];omega
def W4 (K:bp):V->z0p->z0p->Hp->VK->Prop:=λx lo hi H Q=>∃a xs,x=.ref a/\aY K H a xs /\
 ¬(HT.fM xs.length 0 lo=0/\HT.fM xs.length xs.length hi=xs.length)/\∀p,H p=none->Q (.ref p) (upd H p (.tup (g8 xs lo hi)))
def AG:Ul X (W4 X.K):=by
 intro ag s σ H x v vl vu lo hi sl Q I rx hs pl pu h;obtain⟨a,xs,rfl,hx,hw,q⟩:=h;cases rx;obtain⟨aT,r,ht,hz⟩:=I.tuple hx;have bN:aT.toArray.size=xs.length:=by rw [cH];exact r.length.symm
 refine⟨"tuple",_,uP.lookup,ht.typeIs,?_⟩;refine HT.oi ht hs pl pu (by rw [bN];exact hw) ?_ (by rw [bN];exact hz);rw [bN];refine⟨180,_,I.laid (t':=s.toks) (o:=.tup (g8 xs lo hi)) (λb ob q=>b9 _ q) (aG _) ?_,rfl,q _ (I.cu.fresh (aG _))⟩;exact⟨gr (qb xs lo hi) hz,_,(r.drop (HT.fM xs.length 0 lo)).take (HT.fM xs.length xs.length hi - HT.fM xs.length 0 lo),IsTup.new _ _⟩
def Ru (K:bp):R2:=λx y H Q=>∃a b xs ys,x=.ref a/\y=.ref b/\aY K H a xs/\aY K H b ys/\xs≠[]/\xs.length+ys.length<=sizeLine /\
 (ys=[]->Q (.ref a) H)/\(ys≠[]->∀p,H p=none->Q (.ref p) (upd H p (.tup (xs++ys))))
def bF.qG {xs:List V}{us:z0n}(r:bF xs us):us=[]↔xs=[]:=by
 cases r with
 | nil=>simp
 | cons _ _=>simp
def Ky:ng X (binaryOp .Add) (Ru X.K):=by
 intro ag s σ H x y v u Q I rx ry h;obtain⟨a,b,xs,ys,rfl,rfl,ha,hb,hx,hz,q1,q2⟩:=h;cases rx;cases ry;obtain⟨aT,r1,p1,_⟩:=I.tuple ha;obtain⟨ft,r2,p2,_⟩:=I.tuple hb;refine HT.LH p1 p2 (λz=>hx (r1.qG.mp z)) (λz=>⟨.ref a,H,I,rfl,q1 (r2.qG.mp z)⟩) (λz=>?_) (by rw [<-r1.length,<-r2.length];exact hz);refine⟨180,_,I.laid (t':=s.toks) (o:=.tup (xs++ys)) (λb ob q=>b9 _ q) (aG _) ?_,rfl,q2 (λw=>z (r2.qG.mpr w)) _ (I.cu.fresh (aG _))⟩;exact⟨by rw [a8];exact hz,_,r1.append r2,IsTup.new _ _⟩
end
def P9 (n:Nat) (i:Int):Option Nat:=if 0<=i then (if i < n then some i.toNat else none) else if -(n:Int)<=i then some (i+n).toNat else none
def pK {α:Type}(xs:List α) (i:Int):Option α:=(P9 xs.length i).bind λj=>xs[j]?
def K8 {n:Nat}{i:Int}{j:Nat}(h:P9 n i=some j):seqIndex? i n=some j/\j < n/\-(n:Int)<=i/\i < n:=by
 unfold P9 at h;by_cases h0:0<=i
 .rw [aw h0] at h;by_cases h1:i < n
  .rw [aw h1] at h;have e:i.toNat=j:=hJ h;exact⟨by rw [seqIndex_of h0 h1,e],∅,∅,h1⟩
  rw [ar h1] at h;cases h
 rw [ar h0] at h;by_cases h1:-(n:Int)<=i
 .rw [aw h1] at h;have e:(i+n).toNat=j:=hJ h;exact⟨by rw [seqIndex_neg ∅ h1,e],∅,h1,∅⟩
 rw [ar h1] at h;cases h
def Dq {α:Type}{xs:List α}{i:Int}{v:α}(h:pK xs i=some v):∃j,seqIndex? i xs.length=some j/\xs[j]?=some v/\j < xs.length/\-(xs.length:Int)<=i/\i < xs.length:=by
 unfold pK at h;cases e:P9 xs.length i with
 | none=>rw [e] at h;cases h
 | some j =>
  rw [e] at h;obtain⟨h1,h2,h3,h4⟩:=K8 e;exact⟨j,h1,h,h2,h3,h4⟩
def cK {α:Type}{xs:List α}{j:Nat}{v:α}(h:xs[j]?=some v):pK xs (j:Int)=some v:=by
 have hj:j < xs.length:=(bw.mp h).1;have e:P9 xs.length (j:Int)=some j:=by
  unfold P9;rw [aw ∅,aw ∅];simp
 unfold pK;rw [e];exact h
def LU (b:Expr):Prop:=∀o i,subscripted b false o i=operate [o,i] (getItem o i)
def QF (X:Cx)(r:R2):Prop :=
 ∀(value slice:Expr)(ag:z0e)(s:Shared)(σ:St)(H:Hp)(x y:V)(v u:Value)(Q:VK),133->RelV x v->RelV y u->r x y H Q ->
  subscripted slice false v u=operate [v,u] (getItem v u)->wpAny 145 X.A (subscriptTail value slice v u) (EP X ag σ Q) X.xe s
def MtR (X:Cx)(id:String)(r:V->List V->Hp->VK->Prop):Prop :=
 ∀(ag:z0e)(s:Shared)(σ:St)(H:Hp)(x:V)(xs:List V)(v:Value)(us:z0n)(Q:VK),133->RelV x v->bF xs us->r x xs H Q ->
  wpAny 145 X.A (call (.builtin id) (v::us)) (EP X ag σ Q) X.xe s
section
variable {X:Cx}{a b:Expr}{ta tb:TE}{pos:Pos}
def ba {r:R2}(hr:QF X r)(ha:PE X a ta)(hb:PE X b tb)(hs:LU b):PE X (.Subscript a b pos) (UK r ta tb):=by
 intro ag s σ H Q I h;exact Subscript_ (Px ha hb I h λv u s2 x y H2 I2 rx ry q=>hr a b ag s2 σ H2 x y v u Q I2 rx ry q (hs _ _))
inductive V0 (S:Addr->List V->Prop)(x y:V)(R:V->Prop):Prop
|mk(p:Addr)(xs:List V) (i:Int)(v:V)(e:x=.ref p)(e2:y=.int i)(s:S p xs)(a:pK xs i=some v)(q:R v)
def Rq (K:bp):R2:=λx y H Q=>V0 (aI K H) x y λv=>Q v H
def Rp (K:bp):R2:=λx y H Q=>V0 (aY K H) x y λv=>Q v H
def cU:QF X (Rq X.K):=by
 intro value slice ag s σ H x y v u Q I rx ry h hs;obtain⟨p,xs,i,z,rfl,rfl,hq,he,q⟩:=h;cases rx;obtain⟨t,rfl⟩:=ry;obtain⟨aT,r,pl,hz⟩:=I.list hq;obtain⟨j,h1,h2,h3,h4,h5⟩:=Dq he;obtain⟨w,ew,A0⟩:=r.get h2;have hl:=r.length;have hn:=xD;have fin:EP X ag σ Q w s:=⟨z,H,I,A0,q⟩;by_cases h0:0<=i
 .have hj:i.toNat=j:=by
   rw [seqIndex_of h0 h5] at h1;exact hJ h1
  exact item_listR pl.isList h0 ∅ (by rw [hj];simpa using ew) fin hs
 have hj:(i+(aT.toArray.size:Int)).toNat=j:=by
  rw [seqIndex_neg ∅ h4] at h1;rw [cH,<-hl];exact hJ h1
 exact subscriptTail_builtinR (x:=w) pl.isList.typeIs slot_list_getitem.lookup
  (wpAny_getItem_list_neg (Q:=λr s'=>r=w/\EP X ag σ Q r s') pl.isList ∅ (by rw [cH] <;> omega) ∅ (by rw [hj];simpa using ew) ⟨rfl,fin⟩) hs
def bE:QF X (Rp X.K):=by
 intro value slice ag s σ H x y v u Q I rx ry h hs;obtain⟨p,xs,i,z,rfl,rfl,hq,he,q⟩:=h;cases rx;obtain⟨t,rfl⟩:=ry;obtain⟨aT,r,pl,hz⟩:=I.tuple hq;obtain⟨j,h1,h2,h3,h4,h5⟩:=Dq he;obtain⟨w,ew,A0⟩:=r.get h2;have hl:=r.length;have hn:=xD;have fin:EP X ag σ Q w s:=⟨z,H,I,A0,q⟩;exact subscriptTail_builtinR (x:=w) pl.typeIs slot_tuple_getitem.lookup
  (getItem_tuple (j:=j) (Q:=λr s'=>r=w/\EP X ag σ Q r s') pl ∅ ∅ (by rw [cH,<-hl];exact h1) (by simpa using ew) ⟨rfl,fin⟩) hs
def wX (lo hi:z0p) (n:Nat):(sliceBounds lo hi none n).1=((HT.fM n 0 lo:Nat):Int)/\(sliceBounds lo hi none n).2.1=((HT.fM n n hi:Nat):Int)/\(sliceBounds lo hi none n).2.2=1:=by
 refine⟨?_,?_,rfl⟩
 .cases lo with
  | none=>simp [sliceBounds,HT.fM]
  | some i =>
   simp only [sliceBounds,HT.fM,Option.getD_none,show (1:Int) > 0 by decide,if_true];by_cases h:i < 0
   .simp only [h,if_true] <;> omega
   simp only [h,if_false] <;> omega
 cases hi with
 | none=>simp [sliceBounds,HT.fM]
 | some i =>
  simp only [sliceBounds,HT.fM,Option.getD_none,show (1:Int) > 0 by decide,if_true];by_cases h:i < 0
  .simp only [h,if_true] <;> omega
  simp only [h,if_false] <;> omega
def uw (aT:z0n)(lo hi:z0p):slicePick aT.toArray lo hi none=((aT.drop (HT.fM aT.length 0 lo)).take (HT.fM aT.length aT.length hi - HT.fM aT.length 0 lo)).toArray:=by
 obtain⟨h1,h2,h3⟩:=wX lo hi aT.toArray.size;unfold slicePick;rw [h1,h2,h3];simp only [sliceRange_one,pick_run,cH] <;> rfl
def W5 (K:bp):V->z0p->z0p->Hp->VK->Prop:=λx lo hi H Q=>XSq x (aI K H) λxs=>∀p,H p=none->Q (.ref p) (upd H p (.lst (g8 xs lo hi)))
def wY:Ul X (W5 X.K):=by
 intro ag s σ H x v vl vu lo hi sl Q I rx hs pl pu h;obtain⟨a,xs,rfl,hx,q⟩:=h;cases rx;obtain⟨aT,r,ht,hz⟩:=I.list hx;have bN:=r.length;refine⟨"list",_,slot_list_getitem.lookup,ht.isList.typeIs,?_⟩;refine wpAny_getItem_list_slice ht.isList hs pl pu .none 135 ?_ (by rw [cH] <;> omega)
 rw [uw,<-bN];refine⟨180,_,I.laid (t':=s.toks) (o:=.lst (g8 xs lo hi)) (λb ob q=>b9 _ q) (aG _) ?_,rfl,q _ (I.cu.fresh (aG _))⟩;exact⟨gr (qb xs lo hi) hz,_,0,(r.drop (HT.fM xs.length 0 lo)).take (HT.fM xs.length xs.length hi - HT.fM xs.length 0 lo),dA _ rfl⟩
def jE:V->Bool
 | .d0=>true
 | .bl _=>true
 | .int _=>true
 | .str _=>true
 | _=>false
def vA:V->V->Bool
 | .d0,.d0=>true
 | .bl a,.bl b=>a == b
 | .bl a,.int b=>(if a then 1 else 0) == b
 | .int a,.bl b=>a == (if b then 1 else 0)
 | .int a,.int b=>a == b
 | .str a,.str b=>a == b
 | _,_=>false
def BZ {A:Around}{s:Shared}{y x:V}{u v:Value}(ry:RelV y u)(rx:RelV x v)(fy:jE y=true)(fx:jE x=true):SeqAt.EqAt A s u v (vA y x):=by
 cases y with
 | d0 =>
  cases ry;cases x with
  | d0=>cases rx;exact SeqAt.EqAt.same _
  | bl b=>cases rx;exact SeqAt.EqAt.none_bool b
  | int b=>obtain⟨t,rfl⟩:=rx;exact SeqAt.EqAt.none_int b t
  | str b=>obtain⟨t,rfl⟩:=rx;exact SeqAt.EqAt.none_str b t
  | _=>exact absurd (show false=true from fx) cQ
 | bl a =>
  cases ry;cases x with
  | d0=>cases rx;exact SeqAt.EqAt.bool_none a
  | bl b=>cases rx;exact SeqAt.EqAt.bool_bool a b
  | int b=>obtain⟨t,rfl⟩:=rx;exact SeqAt.EqAt.bool_int a b t
  | str b=>obtain⟨t,rfl⟩:=rx;exact SeqAt.EqAt.bool_str a b t
  | _=>exact absurd (show false=true from fx) cQ
 | int a =>
  obtain⟨t',rfl⟩:=ry;cases x with
  | d0=>cases rx;exact SeqAt.EqAt.int_none a t'
  | bl b=>cases rx;exact SeqAt.EqAt.int_bool a t' b
  | int b=>obtain⟨t,rfl⟩:=rx;exact v7 a t' b t
  | str b=>obtain⟨t,rfl⟩:=rx;exact SeqAt.EqAt.int_str a t' b t
  | _=>exact absurd (show false=true from fx) cQ
 | str a =>
  obtain⟨t',rfl⟩:=ry;cases x with
  | d0=>cases rx;exact SeqAt.EqAt.str_none a t'
  | bl b=>cases rx;exact SeqAt.EqAt.str_bool a t' b
  | int b=>obtain⟨t,rfl⟩:=rx;exact SeqAt.EqAt.str_int a t' b t
  | str b=>obtain⟨t,rfl⟩:=rx;exact SeqAt.EqAt.str_str a t' b t
  | _=>exact absurd (show false=true from fx) cQ
 | _=>exact absurd (show false=true from fy) cQ
def BY (x:V)(u:Value):Bool:=match u with
 | .none=>vA .d0 x
 | .bool b=>vA (.bl b) x
 | .int i _=>vA (.int i) x
 | .str z _=>vA (.str z) x
 | _=>false
def IM {x y:V}{u:Value}(r:RelV y u)(f:jE y=true):BY x u=vA y x:=by
 cases y with
 | d0=>cases r;rfl
 | bl b=>cases r;rfl
 | int i=>obtain⟨t,rfl⟩:=r;rfl
 | str z=>obtain⟨t,rfl⟩:=r;rfl
 | _=>exact absurd (show false=true from f) cQ
theorem ow {x:V}:∀{xs:List V}{us:z0n},bF xs us->xs.all jE=true->us.any (BY x)=xs.any λy=>vA y x
 | _,_,.nil,_=>rfl
 | y::xs,u::us,.cons r t,f=>by
  rw [List.all_cons,ni] at f;rw [oK,oK,IM r f.1,ow t f.2]
theorem kT {A:Around}{s:Shared}{x:V}{v:Value}(rx:RelV x v)(fx:jE x=true):∀{xs:List V}{us:z0n},bF xs us->xs.all jE=true->∀u∈us,SeqAt.EqAt A s u v (BY x u)
 | _,_,.nil,_=>λu hu=>by cases hu
 | y::xs,u::us,.cons r t,f=>λu' hu=>by
  rw [List.all_cons,ni] at f;rcases b8.mp hu with rfl | hu
  .rw [IM r f.1];exact BZ r rx f.1 fx
  exact kT rx fx t f.2 u' hu
def Oy (x:V)(xs:List V):Bool:=xs.any λy=>vA y x
inductive XIn (S:Addr->List V->Prop)(x y:V)(R:List V->Prop):Prop
|mk(p:Addr)(xs:List V)(e:y=.ref p)(s:S p xs)(f:jE x=true)(g:xs.all jE=true)(q:R xs)
def U0 (K:bp)(neg:Bool):R2:=λx y H Q=>XIn (λp xs=>aI K H p xs\/aY K H p xs) x y λxs=>Q (.bl (if neg then !Oy x xs else Oy x xs)) H
def jt:ng X (compareOp .In) (U0 X.K false):=by
 intro ag s σ H x y v u Q I rx ry h;obtain⟨p,xs,rfl,hq,fx,fs,q⟩:=h;cases ry;rcases hq with hq | hq
 .obtain⟨aT,r,pl,hz⟩:=I.list hq;refine SeqAt.in_listAt (BY x) pl.isList (λw hw=>kT rx fx r fs w (by simpa using hw)) ⟨.bl _,H,I,rfl,?_⟩;rw [show aT.toArray.any (BY x)=aT.any (BY x) by simp,ow r fs];exact q
 obtain⟨aT,r,pl,hz⟩:=I.tuple hq;refine SeqAt.in_tupleAt (BY x) pl (λw hw=>kT rx fx r fs w (by simpa using hw)) ⟨.bl _,H,I,rfl,?_⟩;rw [show aT.toArray.any (BY x)=aT.any (BY x) by simp,ow r fs];exact q
def iA:ng X (compareOp .NotIn) (U0 X.K true):=by
 intro ag s σ H x y v u Q I rx ry h;obtain⟨p,xs,rfl,hq,fx,fs,q⟩:=h;cases ry;rcases hq with hq | hq
 .obtain⟨aT,r,pl,hz⟩:=I.list hq;refine SeqAt.notIn_listAt (BY x) pl.isList (λw hw=>kT rx fx r fs w (by simpa using hw)) ⟨.bl _,H,I,rfl,?_⟩;rw [show aT.toArray.any (BY x)=aT.any (BY x) by simp,ow r fs];exact q
 obtain⟨aT,r,pl,hz⟩:=I.tuple hq;refine SeqAt.notIn_tupleAt (BY x) pl (λw hw=>kT rx fx r fs w (by simpa using hw)) ⟨.bl _,H,I,rfl,?_⟩;rw [show aT.toArray.any (BY x)=aT.any (BY x) by simp,ow r fs];exact q
def aU:iV X (.builtin "len") (λxs H Q=>PD xs (λp ys=>aI X.K H p ys\/aY X.K H p ys) λys=>Q (.int ys.length) H):=by
 intro ag s σ H xs us Q I r h;obtain⟨p,ys,rfl,hq,q⟩:=h;obtain⟨u,rfl,rx⟩:=vals1 r;cases rx;have hn:=xD;rcases hq with hq | hq
 .obtain⟨aT,r',pl,hz⟩:=I.list hq;have bN:=r'.length;exact Calls.call_len_list pl.isList (by simp only [cH] <;> omega) ⟨.int ys.length,H,I.tok _,⟨s.toks+1,by rw [cH,bN]⟩,q⟩
 obtain⟨aT,r',pl,hz⟩:=I.tuple hq;have bN:=r'.length;exact len_tuple pl (by simp only [cH] <;> omega) ⟨.int ys.length,H,I.tok _,⟨s.toks+1,by rw [cH,bN]⟩,q⟩
def gi:iV X (.type "list") (λxs H Q=>PD xs (λp ys=>aI X.K H p ys\/aY X.K H p ys) λys=>∀l,H l=none->Q (.ref l) (upd H l (.lst ys))):=by
 intro ag s σ H xs us Q I r h;obtain⟨p,ys,rfl,hq,q⟩:=h;obtain⟨u,rfl,rx⟩:=vals1 r;cases rx;have fin:∀(aT:z0n),bF ys aT->ys.length<=sizeLine->∀(h':Heap) (c':Nat),(∀b o',s.heap.get? b=some o'->h'.get? b=some o') ->
   h'.get? s.heap.objs.size=some { cls:=.type "list",dict:=none,data:=.seq aT.toArray c',slots:=#[] }->EP X ag σ Q (180) { s with heap:=h' }:=λaT r' hz h' c' kp e =>
  ⟨180,_,I.laid (t':=s.toks) kp (aG _) (show cP X.prog X.w _ h' _ (.lst ys) from ⟨hz,aT,c',r',e⟩),rfl,q _ (I.cu.fresh (aG _))⟩
 rcases hq with hq | hq
 .obtain⟨aT,r',pl,hz⟩:=I.list hq;have bN:=r'.length;obtain⟨o,ho,hc,n,hd⟩:=pl.isList;exact call_list_seq p (.inl rfl) ho hc hd (λh' c' kp e=>fin aT r' hz h' c' kp e) (by simp only [cH] <;> omega)
 obtain⟨aT,r',pl,hz⟩:=I.tuple hq;have bN:=r'.length;obtain⟨o,ho,hc,n,hd⟩:=pl;exact call_list_seq p (.inr rfl) ho hc hd (λh' c' kp e=>fin aT r' hz h' c' kp e) (by simp only [cH] <;> omega)
def jc:iV X (.type "tuple") (λxs H Q=>∃p ys,xs=[.ref p]/\((aI X.K H p ys/\∀l,H l=none->Q (.ref l) (upd H l (.tup ys)))\/(aY X.K H p ys/\Q (.ref p) H))):=by
 intro ag s σ H xs us Q I r h;obtain⟨p,ys,rfl,h⟩:=h;obtain⟨u,rfl,rx⟩:=vals1 r;cases rx;rcases h with ⟨hq,q⟩ | ⟨hq,q⟩
 .obtain⟨aT,r',pl,hz⟩:=I.list hq;have bN:=r'.length;refine call_tuple_list pl.isList (λh' kp=>?_) (by simp only [cH] <;> omega)
  have I1:Inv X ag σ H { s with heap:=h' }:=I.kept (t':=s.toks) kp;have I2:Inv X ag σ (upd H h'.objs.size (.tup ys)) { s with heap:=h'.push { cls:=.type "tuple",data:=.seq aT.toArray } } :=
   I1.laid (t':=s.toks) (λb o e=>b9 _ e) (aG _) (show cP X.prog X.w _ _ _ (.tup ys) from ⟨hz,aT,r',IsTup.new _ _⟩)
  exact⟨.ref h'.objs.size,_,I2,rfl,q _ (I1.cu.fresh (aG _))⟩
 obtain⟨aT,r',pl,hz⟩:=I.tuple hq;exact call_tuple_same pl ⟨.ref p,H,I,rfl,q⟩
def Wv (K:bp)(T:String)(x:V)(H:Hp):Prop:=match x with
 | .str _=>T = "str"
 | .int _=>T = "int"
 | .ref p=>(T = "list" /\ ∃xs,aI K H p xs)\/(T = "tuple" /\ ∃o,K.lookup p=some o/\o.cls=.type "tuple" /\ o.dict=none) \/
   (T = "dict" /\ ((∃kvs,H p=162)\/∃kvs,H p=some (.dT kvs)))\/(T = "set" /\ ∃S n,H p=some (.set S n))
 | _=>False
def FK {ag:z0e}{σ:St}{H:Hp}{s:Shared}{T:String}{x:V}{v:Value}(I:133)(r:RelV x v)(ty:Wv X.K T x H) :
  s.TypeIs v T/\∀a,v=.ref a->∃ob,s.heap.get? a=some ob/\ob.dict=none:=by
 cases x with
 | str z =>
  obtain⟨t,rfl⟩:=r;cases (show T = "str" from ty);exact⟨typeIs_str s z t,λ_ e=>nomatch e⟩
 | int i =>
  obtain⟨t,rfl⟩:=r;cases (show T = "int" from ty);exact⟨typeIs_int s i t,λ_ e=>nomatch e⟩
 | ref p =>
  cases r;rcases ty with ⟨rfl,xs,hq⟩ | ⟨rfl,o,hk,hc,hd⟩ | ⟨rfl,hk⟩ | ⟨rfl,S,n,hk⟩
  .obtain⟨aT,_,pl,_⟩:=I.list hq;refine⟨pl.isList.typeIs,λa e=>?_⟩;cases e;obtain⟨o,n,e,c,hd,_⟩:=pl;exact⟨o,e,hd⟩
  .refine⟨⟨o,I.yY p o hk,hc⟩,λa e=>?_⟩;cases e;exact⟨o,I.yY _ o hk,hd⟩
  .have z:∃o,s.heap.get? p=some o/\o.ExactDict:=by
    rcases hk with ⟨kvs,hk⟩ | ⟨kvs,hk⟩
    .obtain⟨_,_,_,_,o,_,_,e,ex,_⟩:=I.cu p _ hk;exact⟨o,e,ex⟩
    obtain⟨_,_,_,_,o,_,_,e,ex,_⟩:=I.cu p _ hk;exact⟨o,e,ex⟩
   obtain⟨o,e,ex⟩:=z;refine⟨⟨o,e,ex.1⟩,λa e2=>?_⟩;cases e2;exact⟨o,e,ex.2.1⟩
  obtain⟨o,_,_,_,e,ex,_⟩:=I.cu p _ hk;refine⟨⟨o,e,ex.1⟩,λa e2=>?_⟩;cases e2;exact⟨o,e,ex.2.1⟩
 | _=>exact False.elim ty
def WE (K:bp)(T:String)(r:V->List V->Hp->VK->Prop)(to:TE):TE:=λσ H Q=>to σ H λx H1=>Wv K T x H1/\r x [] H1 Q
def tBM (K:bp)(T:String)(r:V->List V->Hp->VK->Prop)(to:TE)(t:TA):TE:=λσ H Q=>to σ H λx H1=>Wv K T x H1/\t σ H1 λxs H2=>r x xs H2 Q
variable {o e:Expr}{es:z0r}{to:TE}{t:TA}{name:Str}{apos gZ:Pos}{T id:String}{r:V->List V->Hp->VK->Prop}
def G9 (pa:PlainAttrs T)(slot:Slot T name id)(Yk:typeOf (.builtin id)=pure (.type "method_descriptor"))(hm:MtR X id r)(ho:PE X o to)
  (Iz:attributeBase o name X.env (eval o X.env)=eval o X.env:=by rfl)(Im:(apos.endLine == gZ.line)=true:=by rfl):PE X (.Call (.Attribute o name apos) [] [] gZ) (WE X.K T r to):=by
 intro ag s σ H Q I h;refine wpAny_Call_method0_late Iz Im (dB (ho ag s σ H _ I h) λv s1 bI=>?_);obtain⟨x,H1,I1,r1,ty,q1⟩:=bI;obtain⟨h1,h2⟩:=FK I1 r1 ty;exact⟨T,id,pa,slot,Yk,h1,h2,rG rfl (PySem.evalArgs_none (hm ag s1 σ H1 x [] v [] Q I1 r1 .nil q1))⟩
def gX (pa:PlainAttrs T)(slot:Slot T name id)(Yk:typeOf (.builtin id)=pure (.type "method_descriptor"))(hm:MtR X id r)(ho:PE X o to)(ha:PA X (e::es) t)
  (Iz:attributeBase o name X.env (eval o X.env)=eval o X.env:=by rfl)
  (YQ:((backTo gZ (starEach (e::es) X.env)).all (λx=>!x.1) && (backToKw gZ (keywordEach [] X.env)).all (λx=>x.1.isSome)
   && decide ((e::es).length+([]:List Keyword).length+(if ([]:List Keyword).isEmpty then 0 else 1) < 30))=true:=by rfl)
  (Im:(apos.endLine == gZ.line)=true:=by rfl)(hs:218:=by rfl)(OD:(backTo gZ (starEach es X.env)).any 82=false:=by rfl) :
  PE X (.Call (.Attribute o name apos) (e::es) [] gZ) (tBM X.K T r to t):=by
 intro ag s σ H Q I h;refine wpAny_Call_method_late Iz YQ Im rfl (dB (ho ag s σ H _ I h) λv s1 bI=>?_);obtain⟨x,H1,I1,r1,ty,q1⟩:=bI;obtain⟨h1,h2⟩:=FK I1 r1 ty;refine⟨T,id,pa,slot,Yk,h1,h2,?_⟩;have hA:=ha gZ ag s1 σ H1 _ I1 q1;rw [hs] at hA ⊢;refine rG (by show (false || (backTo gZ (starEach es X.env)).any 82)=false;rw [OD] <;> rfl) (wc ?_)
 refine dB hA λus s2 bI=>?_;obtain⟨vs,H2,I2,r2,q2⟩:=bI;exact hm ag s2 σ H2 x vs v us Q I2 r1 r2 q2
end
def V5 (X:Cx)(id:String)(r:V->List V->Hp->VK->Prop):Prop :=
 ∀(ag:z0e)(s:Shared)(σ:St)(H:Hp)(x:V)(xs:List V)(v:Value)(us:z0n)(Q:VK),133->RelV x v->bF xs us->r x xs H Q ->
  wpAny 145 X.A (call (.builtin id) (v::us)) (EP X ag σ Q) X.xe s
def bF.one {x:V}{us:z0n}(h:bF [x] us):∃u,us=[u]/\RelV x u:=by
 cases h with | cons r t=>cases t;exact⟨_,rfl,r⟩
def bF.zero:∀{us:z0n},bF [] us->us=[]
 | _,.nil=>rfl
theorem bF.dropLast {xs:List V}{us:z0n}(h:bF xs us):bF xs.dropLast us.dropLast:=by
 induction h with
 | nil=>exact .nil
 | cons r t ih =>
  cases t with
  | nil=>exact .nil
  | cons q t'=>exact .cons r ih
def BX {α:Type}(l:List α):l.eraseIdx (l.length - 1)=l.dropLast:=by
 induction l with
 | nil=>rfl
 | cons a r ih =>
  cases r with
  | nil=>rfl
  | cons b r =>
   have e:(a::b::r).length - 1=((b::r).length - 1)+1:=by
    have h1:(a::b::r).length=r.length+2:=rfl;have h2:(b::r).length=r.length+1:=rfl;omega
   rw [e,List.eraseIdx_cons_succ,ih]
   all_goals rfl
section
variable {X:Cx}{ag:z0e}{σ:St}{H:Hp}{s:Shared}{l b:Addr}{xs ys zs:List V}
def Inv.Oj {aT uy:z0n}{n:Nat}{f:z0l->z0l}{t':Nat}(I:133)(hH:H l=some (.lst xs))
  (e:s.heap.get? l=some { cls:=.type "list",data:=.seq aT.toArray n })(hf:f aT.toArray=uy.toArray)(hv:bF ys uy)(hz:ys.length<=sizeLine) :
  Inv X ag σ (upd H l (.lst ys)) { s with heap:=s.heap.update l (Obj.mapSeq f),toks:=t' }:=by
 have q:=PySem.IsL.update e f;rw [hf] at q;refine I.write (x:=l) (e:=l) (by rw [hH];exact trivial) (.inl rfl) (λb' u hb hu=>(uO s.heap (Obj.mapSeq f) (d8 hb)).trans hu) ⟨_,q⟩ ?_;exact⟨hz,uy,_,hv,q⟩
def Inv.XT {aT:z0n}{t':Nat}(I:133)(hv:bF ys aT)(hz:ys.length<=sizeLine) :
  Inv X ag σ (upd H s.heap.objs.size (.lst ys)) { s with heap:=s.heap.push { cls:=.type "list",data:=.seq aT.toArray },toks:=t' } :=
 I.laid (λ_ _ q=>b9 _ q) (aG _) ⟨hz,aT,0,hv,dA _ rfl⟩
theorem Inv.fresh (I:133):H s.heap.objs.size=none:=I.cu.fresh (aG _)
def Inv.Bq (I:133)(hH:H l=some (.lst xs)):xs.length<=sizeLine/\∃(aT:z0n) (n:Nat),bF xs aT/\xs.length=aT.length/\s.heap.get? l=some { cls:=.type "list",data:=.seq aT.toArray n }:=by
 obtain⟨z,aT,n,r,e⟩:=I.cu l _ hH;exact⟨z,aT,n,r,r.length,e⟩
def HH {n:Nat}(h:n<=sizeLine):Builtin.List.listTooLong n=false:=by
 unfold Builtin.List.listTooLong;exact fg ∅
end
section
variable {X:Cx}
inductive Uk (H:Hp)(x:V)(vs:List V)(R:Addr->List V->V->Prop):Prop
|mk(l:Addr)(xs:List V)(y:V)(e:x=.ref l)(e2:vs=[y])(h:H l=some (.lst xs))(z:xs.length < sizeLine)(q:R l xs y)
def Kj:V->List V->Hp->VK->Prop:=λx vs H Q=>Uk H x vs λl xs y=>Q .d0 (upd H l (.lst (xs++[y])))
def cv:V5 X "list.append" Kj:=by
 intro ag s σ H x vs v us Q I rx rv h;obtain⟨l,xs,y,rfl,rfl,hH,hz,q⟩:=h;cases rx;obtain⟨u,rfl,ru⟩:=rv.one;obtain⟨z,aT,n,r,hl,e⟩:=I.Bq hH;refine call_meets F.slot_list_append ⟨_,e,rfl⟩ F.entry_list_append (F.args_list_append_2 _ _) (PySem.list_append l aT.toArray n u (by rw [cH];omega)) ⟨e,?_⟩;refine⟨.d0,_,I.Oj (uy:=aT++[u]) hH e 135 (r.append (.cons ru .nil)) ?_,rfl,q⟩;rw [a8,fO];omega
def Ki:V->List V->Hp->VK->Prop:=λx vs H Q=>∃l b xs zs,x=.ref l/\vs=[.ref b]/\H l=some (.lst xs)/\H b=some (.lst zs)/\xs.length+zs.length<=sizeLine/\Q .d0 (upd H l (.lst (xs++zs)))
def vf:V5 X "list.extend" Ki:=by
 intro ag s σ H x vs v us Q I rx rv h;obtain⟨l,b,xs,zs,rfl,rfl,hH,hB,hz,q⟩:=h;cases rx;obtain⟨u,rfl,ru⟩:=rv.one;cases ru;obtain⟨z,aT,n,r,hl,e⟩:=I.Bq hH;obtain⟨z2,ft,n2,r2,uA,e2⟩:=I.Bq hB;have hsz:aT.toArray.size+ft.toArray.size<=sizeLine:=by rw [cH,cH];omega
 have SK:¬(!aT.toArray.isEmpty && Builtin.List.listTooLong (aT.toArray.size+ft.toArray.size))=true:=by
  rw [HH hsz,Bool.and_false];exact cQ
 refine call_meets F.slot_list_extend ⟨_,e,rfl⟩ F.entry_list_extend (F.args_list_extend_2 _ _)
  (AutoSeq1.list_extend_list_list_0 l aT.toArray n b ft.toArray n2 SK (by rw [cH];omega) ∅) ⟨e,e2,?_⟩
 refine⟨.d0,_,I.Oj (uy:=aT++ft) hH e 135 (r.append r2) ?_,rfl,q⟩;rw [a8];omega
def W6:V->List V->Hp->VK->Prop:=λx vs H Q=>∃l xs y,x=.ref l/\vs=[]/\H l=some (.lst xs)/\xs[xs.length - 1]?=some y/\Q y (upd H l (.lst xs.dropLast))
def HV:V5 X "list.pop" W6:=by
 intro ag s σ H x vs v us Q I rx rv h;obtain⟨l,xs,y,rfl,rfl,hH,hy,q⟩:=h;cases rx;have BE:=rv.zero;subst BE;obtain⟨z,aT,n,r,hl,e⟩:=I.Bq hH;obtain⟨u,hu,ru⟩:=r.get hy;have Yg:aT.toArray[aT.toArray.size - 1]?=some u:=by
  show aT.toArray[aT.length - 1]?=some u;rw [<-rH,<-hl];exact hu
 refine call_meets F.slot_list_pop ⟨_,e,rfl⟩ F.entry_list_pop (F.args_list_pop_1 _) (MeetsSeq.list_pop_last l aT.toArray n u Yg (by rw [cH];omega)) ⟨e,?_⟩;refine⟨y,_,I.Oj (uy:=aT.dropLast) hH e ?_ r.dropLast ?_,ru,q⟩
 .show aT.toArray.eraseIdxIfInBounds (aT.toArray.size - 1)=aT.dropLast.toArray;rw [cH,List.eraseIdxIfInBounds_toArray,BX]
 rw [List.length_dropLast];omega
def W8:R2:=λx y H Q=>XC2 (λl xs=>H l=some (.lst xs)) x y λxs zs=>∀p,H p=none->Q (.ref p) (upd H p (.lst (xs++zs)))
def jb:ng X (binaryOp .Add) W8:=by
 intro ag s σ H x y v u Q I rx ry h;obtain⟨l,b,xs,zs,rfl,rfl,hH,hB,hz,q⟩:=h;cases rx;cases ry;obtain⟨z,aT,n,r,hl,e⟩:=I.Bq hH;obtain⟨z2,ft,n2,r2,uA,e2⟩:=I.Bq hB;refine PySem.P.add_list e e2 ?_ (by rw [cH,cH];omega);have ea:aT.toArray++ft.toArray=(aT++ft).toArray:=85
 rw [ea];exact⟨.ref _,_,I.XT (t':=s.toks) (r.append r2) (by rw [a8];omega),rfl,q _ I.fresh⟩
end
section
variable {prog:Program}{w:World}{A:Around}{E:z0b}{s:Shared}
end
section
variable {X:Cx}
end
end L2
namespace vX
open PySem PySem.W PySem.Calls PyProof.Rows
def qm {P:Params}{h:Heap}:∀(ns:z0u)(vs:z0n),WellAll P h vs (ns.map WData.int)->IntsAre vs ns:=by
 intro ns
 induction ns with
 | nil =>
  intro vs w;rw [ml] at w;cases w;exact .nil
 | cons n ns ih =>
  intro vs w;rw [cD] at w;cases w with
  | cons a b =>
   cases a;exact .cons _ _ (ih _ b)
def DL {l:OpenLaw}{n:Nat}(hn:l.most=some n){P:Params}{h:Heap}{args:List WData}{vals:z0n}
  (Lj:l.row.toRowW.claim.pre args=true)(Yi:WellAll P h vals args) :
  ∃a vs ns,vals=[Value.ref a]/\args=[WData.list (ns.map WData.int)]/\h.get? a=some { cls:=.type "list",data:=.seq vs.toArray }/\IntsAre vs ns/\ns.length<=n:=by
 have Vh:WShape.hasAll [] args [.list .int]=true:=(pre_splitW Lj).1;have hc:l.pre.holds [] { args:=args }=true:=(pre_splitW Lj).2;obtain⟨d,r,rfl,h1,h2⟩:=hasAllW_cons Vh;obtain rfl:=hasAllW_nil h2;obtain⟨xs,rfl,h3⟩:=hasW_list h1;obtain⟨ns,rfl⟩:=items_int h3;have bN:ns.length<=n:=by
  unfold OpenLaw.pre at hc;have h4:(WTm.not (.lt (.lit (.int (n:Int))) (.len (.arg 0)))).holds [] { args:=[.list (ns.map .int)] }=true:=by
   have h4:=(holds_andW hc).1;rw [hn] at h4;exact h4
  have h5:=condW_of h4 (w_not (w_lt w_lit (w_len_list (w_arg rfl))));rw [au] at h5;refine Nat.le_of_not_lt λq=>?_;have q':(n:Int) < ((ns.length:Nat):Int):=by omega
  first
   | (rw [cE q'] at h5;exact absurd h5 nofun)
   | (simp at h5;omega)
 cases Yi with
 | cons w1 w2 =>
  cases w2;cases w1 with
  | list ho qt=>exact⟨_,_,ns,rfl,rfl,ho,qm ns _ qt,bN⟩
def DR (l:OpenLaw)(args:List WData):l.row.toRowW.claim.post args (.bool true) args=true :=
 postW_of (r:=l.row.toRowW) (X:=(true == true))
  (show WShape.has [] (.bool true) .bool=true by first | rfl | decide | simp [WShape.has,WShape.arms,WShape.armsAll])
  (show (WTm.eq .res (.lit (.bool true))).value [] { args:=args,res:=some (.bool true),after:=args }=some (.bool (true == true)) from w_eq_bool (w_res rfl) w_lit) rfl
def zQ {l:OpenLaw}{n:Nat}{q:Program}{loose:z0t}{XP:z0c->Heap->Prop}{YP:World->Heap->Prop}{d:DefRec}
  (hn:l.most=some n)(SX:d.params.defaults=[])
  (call:∀(w:World)(s₀ s₁:Shared)(mg mb:z0c)(fa:Addr)(o:Obj)(pm cd doc:Value)(a:Addr)(vs:z0n)(ns:z0u),
   Ground q loose [] XP w s₀ mg mb s₁.heap->YP w s₁.heap ->
   s₁.heap.get? fa=some o->o.data=.func (docDef d.name d.params d.body d.scope pm cd doc)->s₁.heap.CodeRec cd d.name->mg d.name=some (.ref fa) ->
   s₁.heap.get? a=some { cls:=.type "list",data:=.seq vs.toArray }->IntsAre vs ns->ns.length<=n->s₁.gens=#[] ->
   codeAny (model l.prog w) callerA (.call (.ref fa) ⟨[.ref a],[]⟩) (λr s'=>r=.ok (.ret (.bool true))/\OldK s₁.heap s'.heap/\s'.os=s₁.os/\AllBare s'.gens) s₁) :
  WalkO q loose XP YP l.row.toRowW d [] (λf vs=>PySem.call f vs):=by
 intro w s₀ s₁ mg mb G Y fa o pm cd doc dV kV ho hd yh hD SJ hg args vals as Lj aaE hrd Yi hlo;obtain rfl:dV=.none:=Dflts.none hD SX;obtain rfl:kV=.none:=Dflts.noKw hD;obtain⟨a,vs,ns,rfl,rfl,OG,hints,bN⟩:=DL hn Lj Yi;refine enter_call (codeAny_mono (call w s₀ s₁ mg mb fa o pm cd doc a vs ns G Y ho (fd_plain hd) yh SJ OG hints bN hg) λr s' hq=>?_);obtain⟨rfl,h2,h3,h4⟩:=hq;exact⟨.inl ⟨.bool true,.bool true,[],rfl,λ_=>rfl,.bool true,DR l _,λ_=>⟨List.Pairwise.nil,λ_ hm=>(nomatch hm)⟩⟩,h2,h3,h4⟩
section
variable {prog:Program}{w:World}{A:Around}{E:z0b}{s:Shared}{K:Frag}
def pb (h:Heap):Heap:={ h with objs:=#[] }
def jP (h:Heap)(b:Addr):(pb h).get? b=none:=by
 cases e:(pb h).get? b with
 | none=>rfl
 | some o=>exact absurd (bC e) (mx _)
def ledger (h:Heap)(L d:Addr):z0e:=(List.range h.objs.size).filterMap λa=>if a=L\/a=d then none else (h.get? a).map λo=>(a,o)
def fV {h:Heap}{L d a:Addr}{o:Obj}:(a,o)∈ledger h L d↔a≠L/\a≠d/\h.get? a=some o:=by
 unfold ledger;rw [List.mem_filterMap];constructor
 .rintro⟨b,_,e⟩
  split at e
  .cases e
  rename_i hb
  obtain⟨o',ho,e'⟩:=b0.mp e;cases e';exact⟨λq=>hb (.inl q),λq=>hb (.inr q),ho⟩
 rintro⟨n1,n2,ho⟩;refine⟨a,j4.mpr (bC ho),?_⟩;rw [ar (show ¬(a=L\/a=d) from λq=>q.elim n1 n2),ho] <;> rfl
def pW {h:Heap}{L d:Addr}{od:Obj}(jU:d≠L)(ho:h.get? d=some od):News (pb h) L h ([]++(d,od)::ledger h L d):=by
 rintro⟨a,o⟩ hp;rcases b8.mp hp with e | hp
 .cases e;exact⟨ho,jU,jP _ _⟩
 obtain⟨n1,n2,e⟩:=fV.mp hp;exact⟨e,n1,jP _ _⟩
def IH {h:Heap}{L:Addr}{m:z0c}(n:h.Ns L m):Fr (pb h) L h m :=
 ⟨n,λb o e=>(by rw [jP] at e;cases e),gp _⟩
end
end vX
namespace L2
open PySem PySem.Spec PyProof.Rows
theorem uS:∀{vs:z0n}{ns:z0u},IntsAre vs ns->bF (ns.map V.int) vs
 | _,_,.nil=>.nil
 | _,_,.cons n t h=>.cons ⟨t,rfl⟩ (uS h)
def dH (s:Stmt):Arguments:=match s with
 | .FunctionDef _ a _ _ _ _ _ _ _ _=>a
 | _=>{ posonlyargs:=[],args:=[],vararg:=none,kwonlyargs:=[],kw_defaults:=[],kwarg:=none,defaults:=[] }
def cJ (s:Stmt):List Stmt:=match s with
 | .FunctionDef _ _ b _ _ _ _ _ _ _=>b
 | _=>[]
def ay (s:Stmt):Scope:=match s with
 | .FunctionDef _ _ _ _ _ _ sc _ _ _=>sc
 | _=>{ kind:=.function,names:=[],isGenerator:=false,isCoroutine:=false }
abbrev fK:Ff:=λ_ _ _ _ _ _=>False
abbrev E0:XK:=λ_ _ _=>False
def lU {X:Cx}:Passes fK X E0:=λ_ _ _ _ _ _ _ h=>h.elim
structure ir (K:bp)(x qual:Str)(st:Stmt)(f:Addr)(fd:FuncData):Prop where
 ex:∃(oc:Value)(od:z0m)(kV doc pm:Value)(an:z0m)(d5 ct:Value)(yL:z0a),
  fd=PySem.W.fnOf x qual (dH st) (cJ st) (ay st) .none kV doc pm an d5 ct/\K.lookup f=some ⟨oc,od,.func fd,yL⟩/\PySem.W.codeIn K d5 qual=true
 kp:PySem.W.keepIn K (.ref f)=true
section
variable {P:Program}{w:World}{K:bp}{mg:z0c}{base:Heap}
def ir.ok {x qual:Str}{st:Stmt}{f:Addr}{fd:FuncData}{N ps:z0t}{k:Nat}{sp:Sp}(F:ir K x qual st f fd)(S:aK N ps (ay st))(len:∀vs H Q E,sp vs H Q E->vs.length=ps.length)
  (jB:∀(d5:Value)(A:Around)(outer:List Env)(s:Shared)(H:Hp)(vs:List V)(Q:VK)(E:XK),gC k (A.deeper (envOfC qual (ay st) s.heap.objs.size f d5))->sp vs H Q E ->
   ∃t,Cd (pJ fK P w K mg base N qual (ay st) f d5 A outer s H E).KP (cJ st) t/\t { nx:=λ_ H'=>Q .d0 H',rt:=Q } (start N vs) H):bR P w K mg base fK (k+1) f fd ps sp:=by
 obtain⟨oc,od,kV,doc,pm,an,d5,ct,yL,rfl,lk,yh⟩:=F.ex;refine IJ lk yh S len λA outer s H vs Q E hr Fp=>?_;obtain⟨t,h,q⟩:=jB d5 A outer s H vs Q E hr Fp;exact⟨t,h.KP,q⟩
def ir.binds {x qual:Str}{st:Stmt}{f:Addr}{fd:FuncData}{ps:z0t}(F:ir K x qual st f fd)
  (h:∀(kV doc pm:Value)(an:z0m)(d5 ct:Value)(us:z0n),us.length=ps.length->bindArgs (PySem.W.fnOf x qual (dH st) (cJ st) (ay st) .none kV doc pm an d5 ct) ⟨us,[]⟩=pure (ps.zip us)):Binds K fd ps []:=by
 obtain⟨oc,od,kV,doc,pm,an,d5,ct,yL,rfl,lk,yh⟩:=F.ex;exact .all (h kV doc pm an d5 ct)
def IG {x qual:Str}{st:Stmt}{f:Addr}{oc:Value}{od an:z0m}{yL:z0a}{kV doc pm d5 ct:Value}(l:K.lookup f=some ⟨oc,od,.func (PySem.W.fnOf x qual (dH st) (cJ st) (ay st) .none kV doc pm an d5 ct),yL⟩)
  (c:PySem.W.codeIn K d5 qual=true)(k:PySem.W.keepIn K (.ref f)=true):ir K x qual st f (PySem.W.fnOf x qual (dH st) (cJ st) (ay st) .none kV doc pm an d5 ct):=⟨⟨oc,od,kV,doc,pm,an,d5,ct,yL,rfl,l,c⟩,k⟩
end
def fY {A:Around}{k:Nat}(hr:gC k A):A.units+1 < cLine:=rq (Nat.add_le_add_left (by decide:1<=64) _) hr.units
section
variable {X:Cx}
def pv (i:Nat){x:Str}{pos:Pos}(hN:X.N[i]?=some x:=by rfl)(hv:V2 X.env.scope x:=by first | exact Or.inl rfl | exact Or.inr 84 | exact Or.inr (Or.inr rfl))(hd:(x == ("__debug__":Str))=false:=by decide)
  (yh:(x == ("__classdict__":Str))=false:=by decide):PE X (.Name x pos) (gK i):=N1 hN hv hd yh
end
def iS {A B:Prop}(h:B):if false=true then A else B:=by
 rw [ar cQ];exact h
def By {A B:Prop}(h:A):if true=true then A else B:=by
 rw [aw rfl];exact h
def cf {c A B:Prop} [Decidable c] (h1:c->A)(h2:¬c->B):if c then A else B:=by
 by_cases h:c
 .rw [aw h];exact h1 h
 rw [ar h];exact h2 h
def aD (H H':Hp):Prop:=∀b o,H b=some o->H' b=some o
def aD.refl (H:Hp):aD H H:=λ_ _ h=>h
def aD.trans {H H1 H2:Hp}(a:aD H H1)(b:aD H1 H2):aD H H2:=λc o h=>b c o (a c o h)
def aD.free {H H':Hp}(e:aD H H'){l:Addr}(h:H' l=Option.none):H l=Option.none:=by
 cases q:H l with
 | none=>rfl
 | some o =>
  rw [e l o q] at h;cases h
def aD.seq {K:bp}{H H':Hp}{a:Addr}{xs:List V}(e:aD H H')(h:aI K H a xs):aI K H' a xs:=by
 rcases h with (h | ⟨o,h⟩) | h
 .exact .inl (.inl (e _ _ h))
 .exact .inl (.inr ⟨o,e _ _ h⟩)
 exact .inr h
end L2
namespace HD
open PySem PySem.W
def Gy (st:SharedT->Thread->Option (SharedT×Thread))(ok:Thread->Bool):Nat->SharedT->Thread->Option SharedT
 | 0,_,_=>none
 | n+1,s,t=>match through t with
  | true=>some s
  | false=>match ok t with
   | false=>none
   | true=>match st s t with
    | some (s',t')=>Gy st ok n s' t'
    | none=>none
theorem CM {tb:String->Option Builtin}{p:Program}{w:World}{n₀:Nat}{ann:z0k}:∀{n:Nat}{s s':SharedT}{t:Thread},Gy (stepT (denote tb) p w) (stepOk n₀ ann) n s t=some s'->topRun tb p w n₀ ann n s.abs t=some s'.abs
 | 0,_,_,_,h=>by cases h
 | n+1,s,s',t,h=>by
  unfold Gy at h;unfold topRun;cases he:through t with
  | true=>rw [he] at h;cases h;rfl
  | false =>
   rw [he] at h;cases hk:stepOk n₀ ann t with
   | false=>rw [hk] at h;cases h
   | true =>
    rw [hk] at h;cases hs:stepT (denote tb) p w s t with
    | none=>rw [hs] at h;cases h
    | some r=>obtain⟨s₂,t₂⟩:=r;rw [hs] at h;rw [stepT_spec hs];exact CM h
def ofL:List Obj->Nat->BT->BT
 | [],_,t=>t
 | o::r,i,t=>ofL r (i+1) (t.ins i o)
noncomputable def Dn (P:Params):BT:=ofL (boot_heap P).objs.toList 0 .nil
def EZ (P:Params):absHeap (Dn P) 11 {}=boot_heap P:=by kernel_rfl
def O0 {β:Type}:Obj->(Obj->β)->β
 | ⟨c,d,t,s⟩,k=>k ⟨c,d,t,s⟩
def qN {β:Type}:List Obj->(List Obj->β)->β
 | [],k=>k []
 | x::r,k=>O0 x λy=>qN r λys=>k (y::ys)
theorem tq {β:Type}:∀(l:List Obj)(k:List Obj->β),qN l k=k l
 | [],_=>rfl
 | ⟨c,d,t,s⟩::r,k=>by
  show qN r (λys=>k (⟨c,d,t,s⟩::ys))=_;rw [tq r]
def H_ (p q:Program) (loose:z0t)(Xt:Shared->Bool){α:Type}(Yf:Shared->α)(g0:Bool)(h₀:Heap)(s:Shared) :=
 ((staticsOk (importedModules p.main.body) h₀ s.heap && namesBound p s.heap && gensDone s && laidKept h₀ s.heap),openSeen q loose (importedModules p.main.body) Xt g0 s,Yf s)
def Gd {β:Type}(f:Shared->β)(s:SharedT):β:=qN (s.tree.list s.n) λl=>f ⟨⟨l.toArray,s.life⟩,s.gens,s.drawn,s.toks,s.os⟩
def Gb {β:Type}(f:Shared->β)(s:SharedT):Gd f s=f s.abs:=tq _ _
def RV {p q:Program}{loose:z0t}{Xt:Shared->Bool}{α:Type}{Yf:Shared->α}{Ya:World->α}{N:Nat}{g0:Bool}{ann:z0k}{M:Nat}
  (Hc:∀w:World,(fencedOpening treeTable p w N).map (λs=>(s.heap,s.gens,s.drawn,s.toks))=some (boot_heap w.params,Array.mk [],boot_drawn,boot_toks))
  (size:∀w:World,((boot_heap w.params).isNs mainGlobals && (Array.mk []:Array GenState).size == 0,(boot_heap w.params).objs.size,(boot_heap w.params).nsMap mainGlobals "__annotations__")=(true,11,ann))
  (run:∀(w:World)(os:OsState),(Gy (stepT (denote treeTable) p w) (stepOk 11 ann) M ⟨Dn w.params,11,{},Array.mk [],boot_drawn,boot_toks,os⟩ (topStub p)).map (Gd (H_ p q loose Xt Yf g0 (boot_heap w.params)))=some (true,openGood q loose,Ya w))
  (le:Nat.ble M N=true):LeftO p q loose Xt Yf Ya N g0:=λw=>by
 obtain⟨⟨h,gs,d,k,os⟩,e,e'⟩:=b0.mp (Hc w);obtain⟨rfl,rfl,rfl,rfl⟩:h=boot_heap w.params/\gs=Array.mk []/\d=boot_drawn/\k=boot_toks:=by simpa using e'
 obtain⟨z1,z2,z3⟩:_/\_/\_:=by simpa only [oM] using size w
 obtain⟨s',r0,l0⟩:=b0.mp (run w os);rw [Gb] at l0;obtain⟨l1,l2,l3⟩:_/\_/\_:=by simpa only [H_,oM] using l0
 have r:=CM r0;have ea:SharedT.abs ⟨Dn w.params,11,{},Array.mk [],boot_drawn,boot_toks,os⟩=⟨boot_heap w.params,Array.mk [],boot_drawn,boot_toks,os⟩:=by
  unfold SharedT.abs;rw [EZ]
 rw [ea] at r;have r:=topRun_mono (N - M) _ _ _ _ r;rw [show M+(N - M)=N by have:=Nat.le_of_ble_eq_true le;omega] at r;have t:topFrom treeTable p w N ⟨boot_heap w.params,Array.mk [],boot_drawn,boot_toks,os⟩=some s'.abs:=by
  unfold topFrom;dsimp only;rw [z1,z2,z3,r];show (match staticsOk (importedModules p.main.body) (boot_heap w.params) s'.abs.heap && namesBound p s'.abs.heap && gensDone s'.abs && laidKept (boot_heap w.params) s'.abs.heap with | true=>_ | false=>_)=_
  rw [l1]
 unfold openEnds;rw [e];show (topFrom treeTable p w N _).map _=_;rw [t];exact congrArg some (gN l2 l3)
end HD
set_option maxHeartbeats 0
namespace HD
open PySem PySem.W L2 PySem.Challenge
def dE (P:Params)(x:Str)(t:Tok)(v:Value):DictEntry:=⟨PyData.keyHash P x,.str x t,v⟩
def top (p:Program) (i:Nat):Stmt:=p.main.body.getD i (.Pass ⟨0,0,0,0⟩)
def jv (p:Program) (i j:Nat):Stmt:=match top p i with
 | .ClassDef _ _ _ body _ _ _ _ _ _ _=>body.getD j (.Pass ⟨0,0,0,0⟩)
 | _=>.Pass ⟨0,0,0,0⟩
def posOf (s:Stmt):Pos:=match s with
 | .FunctionDef _ _ _ _ _ _ _ _ _ p=>p
 | _=>⟨0,0,0,0⟩
def cF (a:Addr)(n q:Str)(i:Nat)(l m:Int)(x y:Addr)(u v s t:Value)(z:Int)(w:Nat):Addr×Obj:=(a,⟨.type "code",none,.fields #[.str n i,.str q (i+1),.str "/claim/cut.py" (i+2),.int l 0,.int m 0,.int 0 0,.int 0 0,.int 3 0,.ref x,.bool true,.int 181 0,.ref y,u,v,s,t,.int z 0,.int l 0,.str "/claim/cut.py" w],#[]⟩)
def fF (a:Addr)(n q:Str)(s:Stmt)(m:Value):Addr×Obj:=(a,⟨.type "function",none,.func (fnOf n q (dH s) (cJ s) (ay s) .none .none .none m none (.ref (a-1)) .none),#[]⟩)
def dR (P:Params)(x:Str)(t:Tok)(a:Addr):DictEntry:=dE P x t (.ref a)
def m0:Value:=.str "__main__" 164
def m1:Value:=.str "wright.rules" 194
def m2:Value:=.str "wright.places" 226
def m3:Value:=.str "wright.begin_tables" 263
def m4:Value:=.str "wright.errors" 358
def m5:Value:=.str "wright.loops" 519
def m6:Value:=.str "wright.tree_sizes" 549
def m7:Value:=.str "wright.grammar_faults" 570
def m8:Value:=.str "wright.least_trees" 597
def m9:Value:=.str "wright.grammars" 683
def lW:Value:=.str "law_wright_k38_places_closed" 726
noncomputable def K' (p:Program)(P:Params):Frag:=[
 (2,⟨.none,none,.dict #[] 0,#[]⟩),
 (3,⟨.type "dict",none,.dict #[dE P "__name__" 165 (.str "law_wright_k38_places_closed" 726),dE P "__doc__" 166 (.none),dE P "__package__" 167 (.none),dE P "__loader__" 168 (.builtin "__main__.__loader__#opaque"),dE P "__spec__" 169 (.none),dR P "__annotations__" 170 6,dR P "__builtins__" 171 4,dE P "__file__" 173 (.str "/claim/cut.py" 172),dE P "__cached__" 174 (.none),dR P "_wall" 193 21,dR P "heads_of" 201 26,dR P "words_in" 207 31,dR P "numbers_by_name" 213 36,dR P "standings_by_part" 225 43,dR P "part_at" 236 50,dR P "parts_of" 244 57,dR P "closed_list" 250 62,dR P "texts_behind" 262 69,dR P "found_empties" 270 74,dR P "first_places" 281 81,dR P "BeginTable" 357 129,dR P "WrightError" 377 143,dR P "NoRules" 393 156,dR P "Twice" 418 175,dR P "Endless" 443 194,dR P "Unmet" 468 213,dR P "Loop" 493 232,dR P "Vast" 518 251,dR P "find_loop" 526 258,dR P "steps_with_like_rows" 532 263,dR P "way_back" 548 270,dR P "least_sizes" 556 275,dR P "greatest_empty_sizes" 563 282,dR P "settled_sizes" 569 287,dE P "MOST_RULES" 573 (.int (60) 572),dR P "refuse_faults" 579 292,dR P "refuse_twice" 590 299,dR P "names_met" 596 304,dR P "least_by_part" 604 309,dR P "rule_size" 610 314,dR P "empty_by_name" 616 319,dR P "LeastTrees" 682 362,dR P "Grammar" 725 391,dR P "_law_cell_at" 735 402,dR P "_law_names" 741 407,dR P "_law_words" 748 414,dR P "_law_digits" 760 421,dR P "_law_skeleton" 774 428,dR P "_law_more" 790 435,dR P "_law_ended" 796 440,dR P "_law_not_vast" 802 445,dR P "_law_good" 808 450,dR P "_law_grammar" 822 457,dR P "_law_begins" 828 462,dR P "_law_parts" 836 469,dR P "_law_ahead" 842 474,dR P "_law_closed" 848 479,dR P "_law_place" 858 486,dR P "law" 864 491] 59,#[]⟩),
 (cF 20 "_wall" "_wall" 187 1 1 15 16 .none (.ref 17) (.ref 18) (.ref 19) 191 192),
 (fF 21 "_wall" "_wall" (top p 0) m0),
 (cF 25 "heads_of" "heads_of" 196 5 1 22 23 .none .none .none (.ref 24) 199 200),
 (fF 26 "heads_of" "heads_of" (top p 2) m1),
 (cF 30 "words_in" "words_in" 202 7 1 27 28 .none .none .none (.ref 29) 205 206),
 (fF 31 "words_in" "words_in" (top p 3) m1),
 (cF 35 "numbers_by_name" "numbers_by_name" 208 15 1 32 33 .none .none .none (.ref 34) 211 212),
 (fF 36 "numbers_by_name" "numbers_by_name" (top p 4) m1),
 (cF 42 "standings_by_part" "standings_by_part" 214 20 1 37 38 .none (.ref 39) (.ref 40) (.ref 41) 223 224),
 (fF 43 "standings_by_part" "standings_by_part" (top p 5) m1),
 (cF 49 "part_at" "part_at" 228 27 2 44 45 .none (.ref 46) (.ref 47) (.ref 48) 234 235),
 (fF 50 "part_at" "part_at" (top p 7) m2),
 (cF 56 "parts_of" "parts_of" 237 30 2 51 52 .none (.ref 53) (.ref 54) (.ref 55) 242 243),
 (fF 57 "parts_of" "parts_of" (top p 8) m2),
 (cF 61 "closed_list" "closed_list" 245 32 2 58 59 .none .none .none (.ref 60) 248 249),
 (fF 62 "closed_list" "closed_list" (top p 9) m2),
 (cF 68 "texts_behind" "texts_behind" 251 46 3 63 64 .none (.ref 65) (.ref 66) (.ref 67) 260 261),
 (fF 69 "texts_behind" "texts_behind" (top p 10) m2),
 (cF 73 "found_empties" "found_empties" 265 55 1 70 71 .none .none .none (.ref 72) 268 269),
 (fF 74 "found_empties" "found_empties" (top p 12) m3),
 (cF 80 "first_places" "first_places" 271 66 2 75 76 .none (.ref 77) (.ref 78) (.ref 79) 279 280),
 (fF 81 "first_places" "first_places" (top p 13) m3),
 (cF 92 "__init__" "BeginTable.__init__" 294 75 2 89 90 .none .none .none (.ref 91) 297 298),
 (fF 93 "__init__" "BeginTable.__init__" (jv p 14 0) m3),
 (cF 99 "find_begins" "BeginTable.find_begins" 300 86 3 94 95 .none (.ref 96) (.ref 97) (.ref 98) 309 310),
 (fF 100 "find_begins" "BeginTable.find_begins" (jv p 14 1) m3),
 (cF 106 "words_of_part" "BeginTable.words_of_part" 312 94 2 101 102 .none (.ref 103) (.ref 104) (.ref 105) 317 318),
 (fF 107 "words_of_part" "BeginTable.words_of_part" (jv p 14 2) m3),
 (cF 113 "first_words" "BeginTable.first_words" 320 97 2 108 109 .none (.ref 110) (.ref 111) (.ref 112) 328 329),
 (fF 114 "first_words" "BeginTable.first_words" (jv p 14 3) m3),
 (cF 118 "all_empty" "BeginTable.all_empty" 331 104 2 115 116 .none .none .none (.ref 117) 334 335),
 (fF 119 "all_empty" "BeginTable.all_empty" (jv p 14 4) m3),
 (cF 125 "words_of_parts" "BeginTable.words_of_parts" 337 107 3 120 121 .none (.ref 122) (.ref 123) (.ref 124) 343 344),
 (fF 126 "words_of_parts" "BeginTable.words_of_parts" (jv p 14 5) m3),
 (128,⟨.type "dict",none,.dict #[dE P "__module__" 289 (.str "wright.begin_tables" 263),dE P "__firstlineno__" 293 (.int (73) 292),dR P "__init__" 299 93,dR P "find_begins" 311 100,dR P "words_of_part" 319 107,dR P "first_words" 330 114,dR P "all_empty" 336 119,dR P "words_of_parts" 345 126,dR P "__static_attributes__" 350 127,dR P "__dict__" 352 130,dR P "__weakref__" 354 131,dE P "__doc__" 355 (.none)] 4,#[]⟩),
 (129,⟨.type "type",none,.cls ⟨"BeginTable",[.type "object"],[.ref 129,.type "object"],128,"BeginTable",true,[],[],false,none,false⟩,#[none,none,some (.str "BeginTable" 282),some (.str "BeginTable" 290),some (.builtin "object.__new__"),some (.bool true)]⟩),
 (130,⟨.type "getset_descriptor",none,.fields #[.str "__dict__" 351,.ref 129,.builtin "function.__dict__",.builtin "function.__dict__#set"],#[]⟩),
 (131,⟨.type "getset_descriptor",none,.fields #[.str "__weakref__" 353,.ref 129,.builtin "ExceptionGroup.__weakref__",.none],#[]⟩),
 (142,⟨.type "dict",none,.dict #[dE P "__module__" 367 (.str "wright.errors" 358),dE P "__firstlineno__" 371 (.int (110) 370),dR P "__static_attributes__" 372 141,dR P "__weakref__" 374 144,dE P "__doc__" 375 (.none)] 3,#[]⟩),
 (143,⟨.type "type",none,.cls ⟨"WrightError",[.type "ValueError"],[.ref 143,.type "ValueError",.type "Exception",.type "BaseException",.type "object"],142,"WrightError",true,[],[.ref 156,.ref 175,.ref 194,.ref 213,.ref 232,.ref 251],false,none,false⟩,#[some (.ref 134),none,some (.str "WrightError" 360),some (.str "WrightError" 368),some (.builtin "ValueError.__new__"),some (.bool true)]⟩),
 (144,⟨.type "getset_descriptor",none,.fields #[.str "__weakref__" 373,.ref 143,.builtin "ExceptionGroup.__weakref__",.none],#[]⟩),
 (155,⟨.type "dict",none,.dict #[dE P "__module__" 385 (.str "wright.errors" 358),dE P "__firstlineno__" 389 (.int (112) 388),dR P "__static_attributes__" 390 154,dE P "__doc__" 391 (.none)] 2,#[]⟩),
 (156,⟨.type "type",none,.cls ⟨"NoRules",[.ref 143],[.ref 156,.ref 143,.type "ValueError",.type "Exception",.type "BaseException",.type "object"],155,"NoRules",true,[],[],false,none,false⟩,#[some (.ref 147),none,some (.str "NoRules" 378),some (.str "NoRules" 386),some (.builtin "ValueError.__new__"),some (.bool true)]⟩),
 (cF 171 "__init__" "Twice.__init__" 406 116 2 166 167 .none (.ref 168) (.ref 169) (.ref 170) 411 412),
 (fF 172 "__init__" "Twice.__init__" (jv p 18 0) m4),
 (174,⟨.type "dict",none,.dict #[dE P "__module__" 401 (.str "wright.errors" 358),dE P "__firstlineno__" 405 (.int (114) 404),dR P "__init__" 413 172,dR P "__static_attributes__" 415 173,dE P "__doc__" 416 (.none)] 2,#[]⟩),
 (175,⟨.type "type",none,.cls ⟨"Twice",[.ref 143],[.ref 175,.ref 143,.type "ValueError",.type "Exception",.type "BaseException",.type "object"],174,"Twice",true,[],[],false,none,false⟩,#[some (.ref 159),none,some (.str "Twice" 394),some (.str "Twice" 402),some (.builtin "ValueError.__new__"),some (.bool true)]⟩),
 (cF 190 "__init__" "Endless.__init__" 431 121 2 185 186 .none (.ref 187) (.ref 188) (.ref 189) 436 437),
 (fF 191 "__init__" "Endless.__init__" (jv p 19 0) m4),
 (193,⟨.type "dict",none,.dict #[dE P "__module__" 426 (.str "wright.errors" 358),dE P "__firstlineno__" 430 (.int (119) 429),dR P "__init__" 438 191,dR P "__static_attributes__" 440 192,dE P "__doc__" 441 (.none)] 2,#[]⟩),
 (194,⟨.type "type",none,.cls ⟨"Endless",[.ref 143],[.ref 194,.ref 143,.type "ValueError",.type "Exception",.type "BaseException",.type "object"],193,"Endless",true,[],[],false,none,false⟩,#[some (.ref 178),none,some (.str "Endless" 419),some (.str "Endless" 427),some (.builtin "ValueError.__new__"),some (.bool true)]⟩),
 (cF 209 "__init__" "Unmet.__init__" 456 126 2 204 205 .none (.ref 206) (.ref 207) (.ref 208) 461 462),
 (fF 210 "__init__" "Unmet.__init__" (jv p 20 0) m4),
 (212,⟨.type "dict",none,.dict #[dE P "__module__" 451 (.str "wright.errors" 358),dE P "__firstlineno__" 455 (.int (124) 454),dR P "__init__" 463 210,dR P "__static_attributes__" 465 211,dE P "__doc__" 466 (.none)] 2,#[]⟩),
 (213,⟨.type "type",none,.cls ⟨"Unmet",[.ref 143],[.ref 213,.ref 143,.type "ValueError",.type "Exception",.type "BaseException",.type "object"],212,"Unmet",true,[],[],false,none,false⟩,#[some (.ref 197),none,some (.str "Unmet" 444),some (.str "Unmet" 452),some (.builtin "ValueError.__new__"),some (.bool true)]⟩),
 (cF 228 "__init__" "Loop.__init__" 481 131 2 223 224 .none (.ref 225) (.ref 226) (.ref 227) 486 487),
 (fF 229 "__init__" "Loop.__init__" (jv p 21 0) m4),
 (231,⟨.type "dict",none,.dict #[dE P "__module__" 476 (.str "wright.errors" 358),dE P "__firstlineno__" 480 (.int (129) 479),dR P "__init__" 488 229,dR P "__static_attributes__" 490 230,dE P "__doc__" 491 (.none)] 2,#[]⟩),
 (232,⟨.type "type",none,.cls ⟨"Loop",[.ref 143],[.ref 232,.ref 143,.type "ValueError",.type "Exception",.type "BaseException",.type "object"],231,"Loop",true,[],[],false,none,false⟩,#[some (.ref 216),none,some (.str "Loop" 469),some (.str "Loop" 477),some (.builtin "ValueError.__new__"),some (.bool true)]⟩),
 (cF 247 "__init__" "Vast.__init__" 506 136 2 242 243 .none (.ref 244) (.ref 245) (.ref 246) 511 512),
 (fF 248 "__init__" "Vast.__init__" (jv p 22 0) m4),
 (250,⟨.type "dict",none,.dict #[dE P "__module__" 501 (.str "wright.errors" 358),dE P "__firstlineno__" 505 (.int (134) 504),dR P "__init__" 513 248,dR P "__static_attributes__" 515 249,dE P "__doc__" 516 (.none)] 2,#[]⟩),
 (251,⟨.type "type",none,.cls ⟨"Vast",[.ref 143],[.ref 251,.ref 143,.type "ValueError",.type "Exception",.type "BaseException",.type "object"],250,"Vast",true,[],[],false,none,false⟩,#[some (.ref 235),none,some (.str "Vast" 494),some (.str "Vast" 502),some (.builtin "ValueError.__new__"),some (.bool true)]⟩),
 (cF 257 "find_loop" "find_loop" 521 140 1 254 255 .none .none .none (.ref 256) 524 525),
 (fF 258 "find_loop" "find_loop" (top p 24) m5),
 (cF 262 "steps_with_like_rows" "steps_with_like_rows" 527 144 1 259 260 .none .none .none (.ref 261) 530 531),
 (fF 263 "steps_with_like_rows" "steps_with_like_rows" (top p 25) m5),
 (cF 269 "way_back" "way_back" 533 153 3 264 265 .none (.ref 266) (.ref 267) (.ref 268) 546 547),
 (fF 270 "way_back" "way_back" (top p 26) m5),
 (cF 274 "least_sizes" "least_sizes" 551 169 1 271 272 .none .none .none (.ref 273) 554 555),
 (fF 275 "least_sizes" "least_sizes" (top p 28) m6),
 (cF 281 "greatest_empty_sizes" "greatest_empty_sizes" 557 171 1 276 277 .none (.ref 278) (.ref 279) (.ref 280) 561 562),
 (fF 282 "greatest_empty_sizes" "greatest_empty_sizes" (top p 29) m6),
 (cF 286 "settled_sizes" "settled_sizes" 564 173 3 283 284 .none .none .none (.ref 285) 567 568),
 (fF 287 "settled_sizes" "settled_sizes" (top p 30) m6),
 (cF 291 "refuse_faults" "refuse_faults" 574 186 2 288 289 .none .none .none (.ref 290) 577 578),
 (fF 292 "refuse_faults" "refuse_faults" (top p 33) m7),
 (cF 298 "refuse_twice" "refuse_twice" 580 205 1 293 294 .none (.ref 295) (.ref 296) (.ref 297) 588 589),
 (fF 299 "refuse_twice" "refuse_twice" (top p 34) m7),
 (cF 303 "names_met" "names_met" 591 212 1 300 301 .none .none .none (.ref 302) 594 595),
 (fF 304 "names_met" "names_met" (top p 35) m7),
 (cF 308 "least_by_part" "least_by_part" 599 222 1 305 306 .none .none .none (.ref 307) 602 603),
 (fF 309 "least_by_part" "least_by_part" (top p 37) m8),
 (cF 313 "rule_size" "rule_size" 605 230 2 310 311 .none .none .none (.ref 312) 608 609),
 (fF 314 "rule_size" "rule_size" (top p 38) m8),
 (cF 318 "empty_by_name" "empty_by_name" 611 232 2 315 316 .none .none .none (.ref 317) 614 615),
 (fF 319 "empty_by_name" "empty_by_name" (top p 39) m8),
 (cF 330 "__init__" "LeastTrees.__init__" 629 239 3 327 328 .none .none .none (.ref 329) 632 633),
 (fF 331 "__init__" "LeastTrees.__init__" (jv p 40 0) m8),
 (cF 337 "least_of" "LeastTrees.least_of" 635 246 2 332 333 .none (.ref 334) (.ref 335) (.ref 336) 640 641),
 (fF 338 "least_of" "LeastTrees.least_of" (jv p 40 1) m8),
 (cF 344 "hollow_of" "LeastTrees.hollow_of" 643 249 2 339 340 .none (.ref 341) (.ref 342) (.ref 343) 648 649),
 (fF 345 "hollow_of" "LeastTrees.hollow_of" (jv p 40 2) m8),
 (cF 351 "begun_place" "LeastTrees.begun_place" 651 252 3 346 347 .none (.ref 348) (.ref 349) (.ref 350) 657 658),
 (fF 352 "begun_place" "LeastTrees.begun_place" (jv p 40 3) m8),
 (cF 358 "begun_of" "LeastTrees.begun_of" 660 255 4 353 354 .none (.ref 355) (.ref 356) (.ref 357) 667 668),
 (fF 359 "begun_of" "LeastTrees.begun_of" (jv p 40 4) m8),
 (361,⟨.type "dict",none,.dict #[dE P "__module__" 624 (.str "wright.least_trees" 597),dE P "__firstlineno__" 628 (.int (237) 627),dR P "__init__" 634 331,dR P "least_of" 642 338,dR P "hollow_of" 650 345,dR P "begun_place" 659 352,dR P "begun_of" 669 359,dR P "__static_attributes__" 675 360,dR P "__dict__" 677 363,dR P "__weakref__" 679 364,dE P "__doc__" 680 (.none)] 4,#[]⟩),
 (362,⟨.type "type",none,.cls ⟨"LeastTrees",[.type "object"],[.ref 362,.type "object"],361,"LeastTrees",true,[],[],false,none,false⟩,#[none,none,some (.str "LeastTrees" 617),some (.str "LeastTrees" 625),some (.builtin "object.__new__"),some (.bool true)]⟩),
 (363,⟨.type "getset_descriptor",none,.fields #[.str "__dict__" 676,.ref 362,.builtin "function.__dict__",.builtin "function.__dict__#set"],#[]⟩),
 (364,⟨.type "getset_descriptor",none,.fields #[.str "__weakref__" 678,.ref 362,.builtin "ExceptionGroup.__weakref__",.none],#[]⟩),
 (374,⟨.type "tuple",none,.seq #[.none] 0,#[]⟩),
 (cF 380 "__init__" "Grammar.__init__" 697 260 3 375 376 .none (.ref 377) (.ref 378) (.ref 379) 703 704),
 (381,⟨.type "function",none,.func (fnOf "__init__" "Grammar.__init__" (dH (jv p 42 0)) (cJ (jv p 42 0)) (ay (jv p 42 0)) (.ref 374) (.none) (.none) (.str "wright.grammars" 683) (none) (.ref 380) (.none)),#[]⟩),
 (cF 387 "start" "Grammar.start" 706 268 1 382 383 .none (.ref 384) (.ref 385) (.ref 386) 710 711),
 (fF 388 "start" "Grammar.start" (jv p 42 1) m9),
 (390,⟨.type "dict",none,.dict #[dE P "__module__" 692 (.str "wright.grammars" 683),dE P "__firstlineno__" 696 (.int (258) 695),dR P "__init__" 705 381,dR P "start" 712 388,dR P "__static_attributes__" 718 389,dR P "__dict__" 720 392,dR P "__weakref__" 722 393,dE P "__doc__" 723 (.none)] 4,#[]⟩),
 (391,⟨.type "type",none,.cls ⟨"Grammar",[.type "object"],[.ref 391,.type "object"],390,"Grammar",true,[],[],false,none,false⟩,#[none,none,some (.str "Grammar" 685),some (.str "Grammar" 693),some (.builtin "object.__new__"),some (.bool true)]⟩),
 (392,⟨.type "getset_descriptor",none,.fields #[.str "__dict__" 719,.ref 391,.builtin "function.__dict__",.builtin "function.__dict__#set"],#[]⟩),
 (393,⟨.type "getset_descriptor",none,.fields #[.str "__weakref__" 721,.ref 391,.builtin "ExceptionGroup.__weakref__",.none],#[]⟩),
 (cF 401 "_law_cell_at" "_law_cell_at" 728 271 2 396 397 .none (.ref 398) (.ref 399) (.ref 400) 733 734),
 (fF 402 "_law_cell_at" "_law_cell_at" (top p 44) lW),
 (cF 406 "_law_names" "_law_names" 736 275 1 403 404 .none .none .none (.ref 405) 739 740),
 (fF 407 "_law_names" "_law_names" (top p 45) lW),
 (cF 413 "_law_words" "_law_words" 742 281 1 408 409 .none (.ref 410) (.ref 411) (.ref 412) 746 747),
 (fF 414 "_law_words" "_law_words" (top p 46) lW),
 (cF 420 "_law_digits" "_law_digits" 749 283 3 415 416 .none (.ref 417) (.ref 418) (.ref 419) 758 759),
 (fF 421 "_law_digits" "_law_digits" (top p 47) lW),
 (cF 427 "_law_skeleton" "_law_skeleton" 761 294 4 422 423 .none (.ref 424) (.ref 425) (.ref 426) 772 773),
 (fF 428 "_law_skeleton" "_law_skeleton" (top p 48) lW),
 (cF 434 "_law_more" "_law_more" 775 305 5 429 430 .none (.ref 431) (.ref 432) (.ref 433) 788 789),
 (fF 435 "_law_more" "_law_more" (top p 49) lW),
 (cF 439 "_law_ended" "_law_ended" 791 315 2 436 437 .none .none .none (.ref 438) 794 795),
 (fF 440 "_law_ended" "_law_ended" (top p 50) lW),
 (cF 444 "_law_not_vast" "_law_not_vast" 797 324 2 441 442 .none .none .none (.ref 443) 800 801),
 (fF 445 "_law_not_vast" "_law_not_vast" (top p 51) lW),
 (cF 449 "_law_good" "_law_good" 803 337 1 446 447 .none .none .none (.ref 448) 806 807),
 (fF 450 "_law_good" "_law_good" (top p 52) lW),
 (cF 456 "_law_grammar" "_law_grammar" 809 359 2 451 452 .none (.ref 453) (.ref 454) (.ref 455) 820 821),
 (fF 457 "_law_grammar" "_law_grammar" (top p 53) lW),
 (cF 461 "_law_begins" "_law_begins" 823 372 1 458 459 .none .none .none (.ref 460) 826 827),
 (fF 462 "_law_begins" "_law_begins" (top p 54) lW),
 (cF 468 "_law_parts" "_law_parts" 829 387 2 463 464 .none (.ref 465) (.ref 466) (.ref 467) 834 835),
 (fF 469 "_law_parts" "_law_parts" (top p 55) lW),
 (cF 473 "_law_ahead" "_law_ahead" 837 391 5 470 471 .none .none .none (.ref 472) 840 841),
 (fF 474 "_law_ahead" "_law_ahead" (top p 56) lW),
 (cF 478 "_law_closed" "_law_closed" 843 402 4 475 476 .none .none .none (.ref 477) 846 847),
 (fF 479 "_law_closed" "_law_closed" (top p 57) lW),
 (cF 485 "_law_place" "_law_place" 849 415 2 480 481 .none (.ref 482) (.ref 483) (.ref 484) 856 857),
 (fF 486 "_law_place" "_law_place" (top p 58) lW),
 (cF 490 "law" "law" 859 419 1 487 488 .none .none .none (.ref 489) 862 863),
 (fF 491 "law" "law" (top p 59) lW)]
def as:z0q:=[2,3,20,21,25,26,30,31,35,36,42,43,49,50,56,57,61,62,68,69,73,74,80,81,92,93,99,100,106,107,113,114,118,119,125,126,128,129,130,131,142,143,144,155,156,171,172,174,175,190,191,193,194,209,210,212,213,228,229,231,232,247,248,250,251,257,258,262,263,269,270,274,275,281,282,286,287,291,292,298,299,303,304,308,309,313,314,318,319,330,331,337,338,344,345,351,352,358,359,361,362,363,364,374,380,381,387,388,390,391,392,393,401,402,406,407,413,414,420,421,427,428,434,435,439,440,444,445,449,450,456,457,461,462,468,469,473,474,478,479,485,486,490,491]
def q' (p:Program):Program:=view p [0,2,3,4,5,7,8,9,10,12,13,14,16,17,18,19,20,21,22,24,25,26,28,29,30,32,33,34,35,37,38,39,40,42,44,45,46,47,48,49,50,51,52,53,54,55,56,57,58,59]
abbrev loose:z0t:=[]
abbrev steps:Nat:=3871
abbrev bound:Nat:=8722
abbrev CZ:OpenLaw:=rw_wright_k38_places_closed
noncomputable abbrev K (P:Params):Frag:=K' pw_wright_k38_places_closed P
theorem Uc (P:Params):as=(K P).map 82:=by kernel_rfl
noncomputable abbrev hook:Hook:=kmHook K as Uc [306,277,272]
def Nz:CZ.wellSaid=true:=by kernel_rfl
def pre (h:CZ.row.wellSaid=true->CZ.row.Holds):CZ.Holds:=holds_law Nz h
abbrev Xt:Shared->Bool:=λs=>xlAt (q' pw_wright_k38_places_closed) [] s && recOk (RowW.records (OpenRow.toRowW (OpenLaw.row rw_wright_k38_places_closed))) s
def run (w:World)(os:OsState):(Gy (stepT (denote treeTable) pw_wright_k38_places_closed w) (stepOk 11 (some (.ref 6))) steps ⟨Dn w.params,11,{},Array.mk [],boot_drawn,boot_toks,os⟩ (topStub pw_wright_k38_places_closed)).map
  (Gd (H_ pw_wright_k38_places_closed (q' pw_wright_k38_places_closed) loose Xt (Hook.obs hook) true (boot_heap w.params)))=some (true,openGood (q' pw_wright_k38_places_closed) loose,Hook.val hook w):=by
 rw [PySem.W.Fast.te10156331382660048174,PySem.W.Fast.te11892475500146522536,PySem.W.Fast.te14364793385576792824,PySem.W.Fast.te6613529449190102663]
 kernel_rfl
theorem size (w:World):((boot_heap w.params).isNs mainGlobals && (Array.mk []:Array GenState).size == 0,(boot_heap w.params).objs.size,(boot_heap w.params).nsMap mainGlobals "__annotations__")=(true,11,some (.ref 6)):=by kernel_rfl
def Hc:∀w:World,(fencedOpening treeTable pw_wright_k38_places_closed w bound).map (λs=>(s.heap,s.gens,s.drawn,s.toks))=some (boot_heap w.params,Array.mk [],boot_drawn,boot_toks) :=
 boot_open (nofun) nofun (λs=>by kernel_rfl)
def left:LeftO (OpenRow.toRowW CZ.row).prog (q' pw_wright_k38_places_closed) loose Xt (Hook.obs hook) (Hook.val hook) bound:=RV Hc size run nofun
def kU:DefRec:={ name := "law",params:=dH (top pw_wright_k38_places_closed 59),body:=cJ (top pw_wright_k38_places_closed 59),scope:=ay (top pw_wright_k38_places_closed 59),pos:=posOf (top pw_wright_k38_places_closed 59) }
def ok1:defOf (q' pw_wright_k38_places_closed) CZ.row.name=some (kU,[]):=by kernel_rfl
def ok2:CZ.row.prog.theDef CZ.row.name=some (kU.params,kU.body,kU.scope):=by kernel_rfl
def ok3:kwWritten? kU.params.kwonlyargs kU.params.kw_defaults=some []:=by kernel_rfl
def ok4:(chainsOk (q' pw_wright_k38_places_closed) && opensWell CZ.row.prog && (frees CZ.row.toRowW && CZ.row.within.isEmpty))=true:=by kernel_rfl
def ok5:kU.params.defaults=[]:=by kernel_rfl
def hold (h:WalkO (q' pw_wright_k38_places_closed) loose (XL (q' pw_wright_k38_places_closed) []) (Hook.says hook) CZ.row.toRowW kU [] λf vs=>PySem.call f vs)(hw:CZ.row.toRowW.promised):CZ.Holds :=
 pre λNz=>holds_open (q:=q' pw_wright_k38_places_closed) (loose:=loose) (Xt:=Xt) (XP:=XL (q' pw_wright_k38_places_closed) []) (Yf:=Hook.obs hook) (Ya:=Hook.val hook) (YP:=Hook.says hook) (N:=bound) left (Hook.of hook) (Hook.keeps hook) (λs e=>xl_of s (jj.mp e).1) XL.keeps ok1 ok2 ok3 (λs e=>recFacts_of (jj.mp e).2) rfl Nz ok4 ⟨rfl,rfl,rfl,rfl,rfl,nofun⟩ hw h
end HD
set_option maxHeartbeats 4000000
namespace L2
open PySem PySem.Spec PyProof.Rows
abbrev t_:=Nat->St->Hp->Prop
def zC {CX:Ff}{P:Program}{w:World}{K:bp}{mg:z0c}{base:Heap}{N:z0t}{qual:Str}{scope:Scope}{f:Addr}{cd:Value}{A:Around}{outer:List Env}{s:Shared}{H:Hp}{E:XK}:(pJ CX P w K mg base N qual scope f cd A outer s H E).KP.K=K:=rfl
def XY {t:TS}{D:Ends}{σ:St}{H:Hp}(h:let E:=D;t E σ H):t D σ H:=h
def XW {t u:TS}{D:Ends}{σ:St}{H:Hp}(h:let E:={ D with nx:=u D };t E σ H):Nn t u D σ H:=h
def RU {t u:TS}{D:Ends}{σ:St}{H:Hp}(h:let E:=D;let F:={ E with nx:=u E };t F σ H):Nn t u D σ H:=h
def XX {g:TG}{x:V}{σ:St}{H:Hp}{t:TS}{D:Ends}(h:let E:=D;g x σ H λσ2 H2=>t E σ2 H2):g x σ H λσ2 H2=>t D σ2 H2:=h
end L2
local macro_rules | `(tactic| nofun) => `(tactic| (dsimp only [L2.zC];refine L2.XW ?_;intro _))
local macro_rules | `(tactic| ac_rfl) => `(tactic| (refine L2.RU ?_;intro _ _))
local macro_rules | `(tactic| ac_nf0) => `(tactic| (refine L2.XX ?_;intro _))
local macro_rules | `(tactic| ac_nf) => `(tactic| (refine L2.XY ?_;intro _))
set_option maxHeartbeats 0
namespace L2
open PySem PySem.Spec PyProof.Rows
section
variable {κ:Type} [DecidableEq κ]
def aZ (kvs:List (κ×V))(k:κ):Option V:=(kvs.find? λkv=>decide (kv.1=k)).map (·.2)
def bQ (kvs:List (κ×V))(k:κ)(v:V):List (κ×V) :=
 if (kvs.any λkv=>decide (kv.1=k))=true then kvs.map (λkv=>if kv.1=k then (kv.1,v) else kv) else kvs++[(k,v)]
def fh {p:κ×V}{r:List (κ×V)}{k:κ}(e:p.1=k):aZ (p::r) k=some p.2:=by simp [aZ,oO,e]
def fj {p:κ×V}{r:List (κ×V)}{k:κ}(e:¬p.1=k):aZ (p::r) k=aZ r k:=by simp [aZ,oO,e]
theorem iJ (k:κ):∀kvs:List (κ×V),(kvs.any λkv=>decide (kv.1=k))=(aZ kvs k).isSome
 | []=>rfl
 | p::r=>by
  rw [oK];by_cases e:p.1=k
  .simp only [fh e,cE e,Bool.true_or,Option.isSome_some]
  rw [fj e,fg e,Bool.false_or];exact iJ k r
theorem yr (k j:κ)(y:V):∀kvs:List (κ×V),aZ (kvs.map λkv=>if kv.1=k then (kv.1,y) else kv) j=(aZ kvs j).map λx=>if j=k then y else x
 | []=>rfl
 | p::r=>by
  have ih:=yr k j y r;rw [cD];by_cases h:p.1=k
  .rw [aw h];by_cases e:p.1=j
   .rw [fh (p:=(p.1,y)) e,fh e,rh,aw (e.symm.trans h)]
   rw [fj (p:=(p.1,y)) e,fj e,ih]
  rw [ar h];by_cases e:p.1=j
  .rw [fh (p:=p) e,fh e,rh,ar (λz=>h (e.trans z))]
  rw [fj (p:=p) e,fj e,ih]
theorem uT (k j:κ)(y:V):∀kvs:List (κ×V),aZ kvs k=none->aZ (kvs++[(k,y)]) j=if j=k then some y else aZ kvs j
 | [],_=>by
  by_cases e:k=j
  .rw [aw e.symm];exact fh (p:=(k,y)) e
  rw [ar (λz=>e z.symm)];exact fj (p:=(k,y)) e
 | p::r,hn=>by
  rw [List.cons_append];have hk:¬p.1=k:=λz=>by rw [fh z] at hn;cases hn
  rw [fj hk] at hn;have ih:=uT k j y r hn;by_cases e:p.1=j
  .rw [fh e,fh e,ar (λz=>hk (e.trans z))]
  rw [fj e,fj e,ih]
def rP (kvs:List (κ×V))(k j:κ)(y:V):aZ (bQ kvs k y) j=if j=k then some y else aZ kvs j:=by
 unfold bQ;by_cases a:(kvs.any λkv=>decide (kv.1=k))=true
 .rw [aw a,yr];rw [iJ] at a;by_cases e:j=k
  .obtain⟨x,hx⟩:=nj.mp a;rw [aw e,e,hx,rh,aw rfl]
  rw [ar e];cases aZ kvs j with
  | none=>rfl
  | some x=>rw [rh,ar e]
 rw [ar a];refine uT k j y kvs ?_;rw [iJ] at a;cases q:aZ kvs k with
 | none=>rfl
 | some x=>rw [q] at a;exact(a rfl).elim
def fX (kvs:List (κ×V))(k:κ)(v:V):(bQ kvs k v).length<=kvs.length+1:=by
 unfold bQ
 split
 .rw [au];omega
 rw [a8,dI,j_];omega
def kO {kvs:List (κ×V)}{k:κ}(v:V)(h:aZ kvs k=none):bQ kvs k v=kvs++[(k,v)]:=by
 unfold bQ;rw [iJ,h];exact ar nofun
def jW.jy {o:Option V}{u:z0k}(r:jW o u):o.isSome=u.isSome:=by
 cases o with
 | none=>cases u with
  | none=>rfl
  | some _=>exact(show False from r).elim
 | some _=>cases u with
  | none=>exact(show False from r).elim
  | some _=>rfl
theorem jW.getD {o:Option V}{u:z0k}{d:V}{d':Value}(r:jW o u)(rd:RelV d d'):RelV (o.getD d) (u.getD d'):=by
 cases o with
 | none=>cases u with
  | none=>exact rd
  | some _=>exact(show False from r).elim
 | some _=>cases u with
  | none=>exact(show False from r).elim
  | some _=>exact r
def KV.val {kvs:List (κ×V)}{vs:List (κ×Value)}(r:KV kvs vs)(k:κ):jW (aZ kvs k) (valueAt vs k):=by
 unfold KV at r
 induction r with
 | nil=>exact True.intro
 | @cons p q ps qs h t ih =>
  obtain⟨h1,h2⟩:=h;by_cases e:p.1=k
  .have e':q.1=k:=h1.symm.trans e;have b:valueAt (q::qs) k=some q.2:=by simp [valueAt,oO,e']
   rw [fh e,b];exact h2
  have e':¬q.1=k:=λz=>e (h1.trans z);have b:valueAt (q::qs) k=valueAt qs k:=by simp [valueAt,oO,e']
  rw [fj e,b];exact ih
theorem KV.any {kvs:List (κ×V)}{vs:List (κ×Value)}(r:KV kvs vs)(k:κ):(kvs.any λkv=>decide (kv.1=k))=vs.any λkv=>decide (kv.1=k):=by
 unfold KV at r
 induction r with
 | nil=>rfl
 | cons h t ih=>rw [oK,oK,ih,h.1]
def KV.NS {kvs:List (κ×V)}{vs:List (κ×Value)}(r:KV kvs vs)(k:κ){y:V}{u:Value}(ry:RelV y u) :
  KV (kvs.map λkv=>if kv.1=k then (kv.1,y) else kv) (vs.map λkv=>if kv.1=k then (kv.1,u) else kv):=by
 unfold KV at r ⊢
 induction r with
 | nil=>exact .nil
 | @cons p q ps qs h t ih =>
  rw [cD,cD];refine .cons ?_ ih;obtain⟨h1,h2⟩:=h;by_cases e:p.1=k
  .rw [aw e,aw (h1.symm.trans e)];exact⟨h1,ry⟩
  rw [ar e,ar (λz=>e (h1.trans z))];exact⟨h1,h2⟩
def KV.put {kvs:List (κ×V)}{vs:List (κ×Value)}(r:KV kvs vs)(k:κ){y:V}{u:Value}(ry:RelV y u):KV (bQ kvs k y) (stored vs k u):=by
 unfold bQ stored;rw [r.any k];by_cases e:(vs.any λkv=>decide (kv.1=k))=true
 .rw [aw e,aw e];exact r.NS k ry
 rw [ar e,ar e];exact gk r ⟨rfl,ry⟩
def KV.keys {kvs:List (κ×V)}{vs:List (κ×Value)}(r:KV kvs vs):kvs.map 82=vs.map 82:=by
 unfold KV at r
 induction r with
 | nil=>rfl
 | cons h t ih=>rw [cD,cD,ih,h.1]
theorem KV.length {kvs:List (κ×V)}{vs:List (κ×Value)}(r:KV kvs vs):kvs.length=vs.length:=bc r
end
def lZ {P:Program}{w:World}{k:aN}{u:Value}(r:RelV (kV k) u):(aX P w).is k u=true:=by
 cases k with
 | inl i=>obtain⟨t,e⟩:=(show ∃t,u=Value.int i t from r);subst e;exact yU P w i t
 | inr x=>obtain⟨t,e⟩:=(show ∃t,u=Value.str x t from r);subst e;exact yT P w x t
theorem vj {P:Program}{w:World}:∀{ks:List aN}{us:z0n},bF (ks.map kV) us->ItemsAre (aX P w) ks us
 | [],_,r=>by rw [ml] at r;cases r;exact .nil
 | k::ks,_,r=>by
  rw [cD] at r;cases r with
  | cons h t=>exact .cons (lZ h) (vj t)
abbrev KT (H:Hp):List (List aN×V)->List (List aN×Addr×Value)->Prop:=Paired λp q=>p.1=q.1/\H q.2.1=some (.tup (p.1.map kV))/\RelV p.2 q.2.2
def KT.val {H:Hp}{kvs:List (List aN×V)}{xs:List (List aN×Addr×Value)}(r:KT H kvs xs)(k:List aN):jW (aZ kvs k) ((atKey xs k).map (·.2)):=by
 induction r with
 | nil=>exact True.intro
 | @cons p q ps qs h t ih =>
  obtain⟨h1,_,h2⟩:=h;by_cases e:p.1=k
  .have e':q.1=k:=h1.symm.trans e;have b:atKey (q::qs) k=some q.2:=by simp [atKey,oO,e']
   rw [fh e,b];exact h2
  have e':¬q.1=k:=λz=>e (h1.trans z);have b:atKey (q::qs) k=atKey qs k:=by simp [atKey,oO,e']
  rw [fj e,b];exact ih
def KT.NS {H:Hp}{kvs:List (List aN×V)}{xs:List (List aN×Addr×Value)}(r:KT H kvs xs)(k:List aN){y:V}{u:Value}(ry:RelV y u) :
  KT H (kvs.map λkv=>if kv.1=k then (kv.1,y) else kv) (xs.map (putAt k u)):=by
 induction r with
 | nil=>exact .nil
 | @cons p q ps qs h t ih =>
  rw [cD,cD];refine .cons ?_ ih;obtain⟨h1,h2,h3⟩:=h;unfold putAt;by_cases e:p.1=k
  .rw [aw e,aw (h1.symm.trans e)];exact⟨h1,h2,ry⟩
  rw [ar e,ar (λz=>e (h1.trans z))];exact⟨h1,h2,h3⟩
def KT.put {H:Hp}{kvs:List (List aN×V)}{xs:List (List aN×Addr×Value)}(r:KT H kvs xs)(k:List aN){b:Addr}{y:V}{u:Value}(hb:H b=some (.tup (k.map kV)))(ry:RelV y u) :
  KT H (bQ kvs k y) (storedH xs k b u):=by
 have e:(kvs.any λkv=>decide (kv.1=k))=(atKey xs k).isSome:=by
  rw [iJ,(r.val k).jy,qU]
 unfold bQ storedH;rw [e];by_cases q:(atKey xs k).isSome=true
 .rw [aw q,aw q];exact r.NS k ry
 rw [ar q,ar q];exact gk r ⟨rfl,hb,ry⟩
def KT.keeps {H H':Hp}{kvs:List (List aN×V)}{xs:List (List aN×Addr×Value)}(r:KT H kvs xs)(ht:∀b ys,H b=some (.tup ys)->H' b=some (.tup ys)):KT H' kvs xs :=
 Paired.b_ r λ_ _ z=>⟨z.1,ht _ _ z.2.1,z.2.2⟩
section
variable {P:Program}{w:World}{H:Hp}{h:Heap}{a:Addr}
def Mi {u:HO}(ok:nh P w H h)(e:Rd H a u):cP P w H h a u:=e.ok ok
def mf {kvs:87}(ok:nh P w H h)(e:Rd H a (.dK kvs)):kvs.length<=sizeLine/\(a == sysModules)=false/\∃vs,KV kvs vs/\h.DictOf (aX P w) a vs :=
 show cP P w H h a (.dK kvs) from Mi ok e
def vF {kvs:87}(ok:nh P w H h)(e:H a=162):kvs.length<=sizeLine/\(a == sysModules)=false/\∃vs,KV kvs vs/\h.DictOf (aX P w) a vs:=mf ok (.inl e)
def mR {ks:List aN}(ok:nh P w H h)(e:H a=some (.tup (ks.map kV))):(tupleKind (aX P w)).is h ks a:=by
 obtain⟨_,aT,r,o,h1,h2,n,h3⟩:=(show cP P w H h a (.tup (ks.map kV)) from ok a _ e);exact⟨o,aT.toArray,n,h1,h2,h3,by simpa using vj r⟩
def tL {kvs:List (List aN×V)}(ok:nh P w H h)(e:Rd H a (.dT kvs)):kvs.length<=sizeLine/\(a == sysModules)=false /\
  ∃xs,KT H kvs xs/\h.DictOfH (tupleKind (aX P w)) a xs:=by
 obtain⟨z,y,xs,r,o,es,ep,h1,h2,h3,h4,h5⟩:=(show cP P w H h a (.dT kvs) from Mi ok e);refine⟨z,y,xs,r,o,es,ep,h1,h2,h3,h4,λx hx=>?_,h5⟩;have all:∀{l:List (List aN×V)}{m:List (List aN×Addr×Value)},KT H l m->∀x∈m,(tupleKind (aX P w)).is h x.1 x.2.1:=by
  intro l m q
  induction q with
  | nil=>intro x hx;exact nomatch hx
  | @cons p q ps qs hq t ih =>
   intro x hx;rcases b8.mp hx with e | hx
   .subst e;exact mR ok (by rw [<-hq.1];exact hq.2.1)
   exact ih x hx
 exact all r x hx
def M3 {kvs:List (List aN×V)}(ok:nh P w H h)(e:H a=some (.dT kvs)):kvs.length<=sizeLine/\(a == sysModules)=false /\
  ∃xs,KT H kvs xs/\h.DictOfH (tupleKind (aX P w)) a xs:=tL ok (.inl e)
end
def cg (H:Hp)(a:Addr)(y:V)(r:Option V):Prop :=
 (∃kvs k,Rd H a (.dK kvs)/\y=kV k/\r=aZ kvs k)\/∃kvs k b,Rd H a (.dT kvs)/\y=.ref b/\H b=some (.tup (k.map kV))/\r=aZ kvs k
def jX (H:Hp)(a:Addr)(y v:V)(H':Hp):Prop :=
 (∃kvs k,H a=162/\y=kV k/\kvs.length < sizeLine/\H'=upd H a (.dK (bQ kvs k v))) \/
 ∃kvs k b,H a=some (.dT kvs)/\y=.ref b/\H b=some (.tup (k.map kV))/\kvs.length < sizeLine/\H'=upd H a (.dT (bQ kvs k v))
theorem cg.k {H:Hp}{a:Addr}{kvs:87}{k:aN}(e:H a=162):cg H a (kV k) (aZ kvs k):=.inl ⟨kvs,k,.inl e,rfl,rfl⟩
def cg.t {H:Hp}{a b:Addr}{kvs:List (List aN×V)}{k:List aN}(e:H a=some (.dT kvs))(eb:H b=some (.tup (k.map kV))):cg H a (.ref b) (aZ kvs k):=.inr ⟨kvs,k,b,.inl e,rfl,eb,rfl⟩
theorem jX.k {H:Hp}{a:Addr}{kvs:87}{k:aN}{v:V}(e:H a=162)(hl:kvs.length < sizeLine):jX H a (kV k) v (upd H a (.dK (bQ kvs k v))):=.inl ⟨kvs,k,e,rfl,hl,rfl⟩
def jX.t {H:Hp}{a b:Addr}{kvs:List (List aN×V)}{k:List aN}{v:V}(e:H a=some (.dT kvs))(eb:H b=some (.tup (k.map kV)))(hl:kvs.length < sizeLine) :
  jX H a (.ref b) v (upd H a (.dT (bQ kvs k v))):=.inr ⟨kvs,k,b,e,rfl,eb,hl,rfl⟩
section
variable {X:Cx}{ag:z0e}{σ:St}{H:Hp}{s:Shared}{a:Addr}{y v:V}{u r:Value}{o:Option V}{A:Around}{E:z0b}
def Inv.big (I:133):sysModules < s.heap.objs.size:=by
 have h:mainGlobals < s.heap.objs.size:=(I.mod.glob.keeps I.bk).lt;exact kq nofun h
def EU {Q:z0b}(hu:A.units+1 < cLine)(I:133)(g:cg H a y (some v))(ry:RelV y u)(h:∀w' s',Inv X ag σ H s'->RelV v w'->Q w' s') :
  wpAny 145 A (getItem (.ref a) u) Q E s:=by
 rcases g with ⟨kvs,k,e,ey,l⟩ | ⟨kvs,k,b,e,ey,eb,l⟩
 .subst ey;obtain⟨z,hd,vs,rel,dd⟩:=mf I.cu e;obtain⟨w',hw,A0⟩:=jW.some_of (v:=v) (o:=valueAt vs k) (by rw [l];exact rel.val k);exact wpAny_getItem_of (lZ ry) dd.mapOf hw (h w' _ (I.tok _) A0)
 subst ey;cases (show u=Value.ref b from ry);obtain⟨z,hd,xs,rel,dd⟩:=tL I.cu e;obtain⟨w',hw,A0⟩:=jW.some_of (v:=v) (o:=(atKey xs k).map (·.2)) (by rw [l];exact rel.val k);obtain⟨p,hp,uz⟩:=b0.mp hw;refine wpAny_getItem_heap (oT hu) (mR I.cu eb) dd hp ?_;rw [uz];exact h w' _ (I.tok _) A0
def TY {Q:z0b}(hu:A.units+1 < cLine)(I:133)(g:cg H a y o)(ry:RelV y u)(h:∀s',Inv X ag σ H s'->Q (.bool o.isSome) s') :
  wpAny 145 A (compareOp .In u (.ref a)) Q E s:=by
 rcases g with ⟨kvs,k,e,ey,l⟩ | ⟨kvs,k,b,e,ey,eb,l⟩
 .subst ey;obtain⟨z,hd,vs,rel,dd⟩:=mf I.cu e;refine wpAny_in_of (lZ ry) hd dd.mapOf ?_;rw [<-(rel.val k).jy,<-l];exact h _ (I.tok _)
 subst ey;cases (show u=Value.ref b from ry);obtain⟨z,hd,xs,rel,dd⟩:=tL I.cu e;refine wpAny_in_heap (oT hu) (mR I.cu eb) hd dd ?_;have q:=(rel.val k).jy;rw [qU] at q;rw [<-q,<-l];exact h _ (I.tok _)
def LD {Q:z0b}(hu:A.units+1 < cLine)(I:133)(g:cg H a y o)(ry:RelV y u)(h:∀s',Inv X ag σ H s'->Q (.bool (!o.isSome)) s') :
  wpAny 145 A (compareOp .NotIn u (.ref a)) Q E s:=by
 rcases g with ⟨kvs,k,e,ey,l⟩ | ⟨kvs,k,b,e,ey,eb,l⟩
 .subst ey;obtain⟨z,hd,vs,rel,dd⟩:=mf I.cu e;refine wpAny_notIn_of (lZ ry) hd dd.mapOf ?_;rw [<-(rel.val k).jy,<-l];exact h _ (I.tok _)
 subst ey;cases (show u=Value.ref b from ry);obtain⟨z,hd,xs,rel,dd⟩:=tL I.cu e;refine wpAny_notIn_heap (oT hu) (mR I.cu eb) hd dd ?_;have q:=(rel.val k).jy;rw [qU] at q;rw [<-q,<-l];exact h _ (I.tok _)
def qQ {h':Heap}{t':Nat}{ob:HO}(I:133)(mu:Uq (H a))(hs:Heap.SameBut a s.heap h')(he:∃q,h'.get? a=some q)(new:cP X.prog X.w (upd H a ob) h' a ob) :
  Inv X ag σ (upd H a ob) { s with heap:=h',toks:=t' } :=
 I.write (x:=a) (e:=a) mu (.inl rfl) (λb q hb z=>(hs.2 b hb).trans z) he new
def tM {P:Program}{w:World}{H':Hp}{h':Heap}{kvs:87}{vs:List (aN×Value)}(z:kvs.length<=sizeLine)(hd:(a == sysModules)=false)(rel:KV kvs vs)(dd:h'.DictOf (aX P w) a vs) :
  cP P w H' h' a (.dK kvs):=⟨z,hd,vs,rel,dd⟩
def ET {H':Hp}{Q:Unit->Shared->Prop}(hu:A.units+1 < cLine)(I:133)(g:jX H a y v H')(ry:RelV y u)(rv:RelV v r)(h:∀s',Inv X ag σ H' s'->Q () s') :
  wpAny 145 A (setItem (.ref a) u r) Q E s:=by
 rcases g with ⟨kvs,k,e,ey,l,eH⟩ | ⟨kvs,k,b,e,ey,eb,l,eH⟩
 .subst ey eH;obtain⟨z,hd,vs,rel,dd⟩:=vF I.cu e;have hz:vs.length<=sizeLine:=by rw [<-rel.length];exact z
  have hl:(bQ kvs k v).length<=sizeLine:=by have:=fX kvs k v;omega
  refine wpAny_setItem_pairs (hsz:=hz) (lZ ry) dd λh' JO hs=>h _ ?_;have he:∃q,h'.get? a=some q:=let ⟨q,_,_,hq,_⟩:=JO;⟨q,hq⟩;exact qQ I (by rw [e];exact True.intro) hs he (tM hl hd (rel.put k rv) JO)
 subst ey eH;cases (show u=Value.ref b from ry);obtain⟨z,hd,xs,rel,dd⟩:=M3 I.cu e;have hz:xs.length<=sizeLine:=by rw [<-bc rel];exact z
 have hl:(bQ kvs k v).length<=sizeLine:=by have:=fX kvs k v;omega
 refine wpAny_setItem_heap (hsz:=hz) (oT hu) (mR I.cu eb) dd λh' JO hs=>h _ ?_;obtain⟨q,es,ep,hq,h2,h3,h4,_,h5⟩:=JO;refine qQ I (by rw [e];exact True.intro) hs ⟨q,hq⟩ ⟨hl,hd,_,(rel.put k eb rv).keeps λc ys ec=>?_,q,es,ep,hq,h2,h3,h4,h5⟩;rw [aj (RK ec e (λz=>nomatch z))];exact ec
end
section
variable {X:Cx}{ag:z0e}{σ:St}{H:Hp}{s:Shared}{a:Addr}{kvs:87}{k:aN}{u:Value}{A:Around}{E:z0b}
def TV {Q:z0b}(I:133)(e:Rd H a (.dK kvs))(h:∀t s',Inv X ag σ H s'->Q (.int kvs.length t) s'):wpAny 145 A (call (.builtin "len") [.ref a]) Q E s:=by
 obtain⟨z,hd,vs,rel,dd⟩:=mf I.cu e;refine call_len_dict hd dd (by rw [<-rel.length];rw [mj] at z;omega) ?_;rw [<-rel.length];exact h _ _ (I.tok _)
end
def Up (i:Expr):Prop:=∀ov iv,subscripted i false ov iv=operate [ov,iv] (getItem ov iv)
def Cs {prog:Program}{w:World}{A:Around}{E:z0b}{s:Shared}{env:Env}{value slice:Expr}{pos:Pos}{T id:String}{Q:z0b}
  (hl:typeLookup (.type T) "__getitem__"=pure (some (.builtin id)))(hs:Up slice)
  (h:wpAny 150 A (eval value env) (λo s₁=>wpAny 150 A (eval slice env) (λi s₂=>s₂.TypeIs o T/\wpAny 150 A (getItem o i) Q E s₂) E s₁) E s) :
  wpAny 150 A (eval (.Subscript value slice pos) env) Q E s:=by
 refine Subscript_ (dS h (λo s₁ h₁=>dS h₁ (λi s₂ h₂=>?_) λ_ _ x=>x) λ_ _ x=>x);obtain⟨hT,h₂⟩:=h₂;unfold subscriptTail;refine aA ?_;rw [getitemInPython_of_ne hT.not_modules];refine aA (wpAny_specialOf hT hl ?_);have fin:wpAny 150 A (subscripted slice false o i) (λr s₃=>wpAny 150 A (letTemporaryGo value o r >>= λ_=>pure r) Q E s₃) E s₂:=by
  rw [hs o i];exact wpAny_operating (dS h₂ (λr s₃ h₃=>aA (wpAny_letTemporaryGo (aH h₃))) λ_ _ x=>x)
 first
  | exact aH (aA fin)
  | exact aA (aH (aA fin))
  | exact aA fin
def zB {X:Cx}{ag:z0e}{σ:St}{H:Hp}{s:Shared}{a:Addr}{y:V}{o:Option V}(I:133)(g:cg H a y o):s.TypeIs (.ref a) "dict" := by
 rcases g with ⟨kvs,k,e,_,_⟩ | ⟨kvs,k,b,e,_,_,_⟩
 .obtain⟨_,_,vs,_,dd⟩:=mf I.cu e;exact dd.typeIs
 obtain⟨_,_,xs,_,dd⟩:=tL I.cu e;exact dd.typeIs
inductive XDp (x:V)(S:Addr->Hp->Prop)(R:Hp->Prop):Prop
|mk(a:Addr)(H4:Hp)(e:x=.ref a)(s:S a H4)(q:R H4)
inductive XDo (S:Option V->Prop)(R:Option V->Prop):Prop
|mk(o:Option V)(s:S o)(q:R o)
inductive XDg (x:V)(S:Addr->V->Prop)(R:V->Prop):Prop
|mk(a:Addr)(v:V)(e:x=.ref a)(s:S a v)(q:R v)
inductive XDi (x:V)(S:Addr->Option V->Prop)(R:Option V->Prop):Prop
|mk(a:Addr)(o:Option V)(e:x=.ref a)(s:S a o)(q:R o)
def Cp (td ty:TE):TE:=λσ H Q=>td σ H λx H1=>ty σ H1 λy H2=>XDg x (λa v=>cg H2 a y (some v)) λv=>Q v H2
def Q3 (ty td:TE):TE:=λσ H Q=>ty σ H λy H1=>td σ H1 λx H2=>XDi x (λa o=>cg H2 a y o) λo=>Q (.bl o.isSome) H2
def Co (ty td:TE):TE:=λσ H Q=>ty σ H λy H1=>td σ H1 λx H2=>XDi x (λa o=>cg H2 a y o) λo=>Q (.bl (!o.isSome)) H2
def Ri (td ty tv:TE):TS:=λD σ H=>tv σ H λv H1=>td σ H1 λx H2=>ty σ H2 λy H3=>XDp x (λa H4=>jX H3 a y v H4) λH4=>D.nx σ H4
section
variable {X:Cx}{o i e value:Expr}{pos pos' wM:Pos}{td ty tv:TE}
def fI (hu:X.A.units+1 < cLine)(ho:PE X o td)(hi:PE X i ty)(hs:Up i):PE X (.Subscript o i pos) (Cp td ty):=by
 intro ag s σ H Q I h;refine Cs PySem.F.slot_dict_getitem.lookup hs (dB (ho ag s σ H _ I h) λu s1 bI=>?_);obtain⟨x,H1,I1,rx,q1⟩:=bI;refine dB (hi ag s1 σ H1 _ I1 q1) λiv s2 bI=>?_;obtain⟨y,H2,I2,ry,a,v,ex,g,q2⟩:=bI;subst ex;obtain rfl:u=Value.ref a:=rx;exact⟨zB I2 g,EU hu I2 g ry λw' s3 I3 A0=>⟨v,H2,I3,A0,q2⟩⟩
def kQ (hu:X.A.units+1 < cLine)(hi:PE X i ty)(ho:PE X o td):PC X .In i o (Q3 ty td):=by
 intro ag s σ H Q I h;refine dB (hi ag s σ H _ I h) λiv s1 bI=>?_;obtain⟨y,H1,I1,ry,q1⟩:=bI;refine dB (ho ag s1 σ H1 _ I1 q1) λu s2 bI=>?_;obtain⟨x,H2,I2,rx,a,ov,ex,g,q2⟩:=bI;subst ex;obtain rfl:u=Value.ref a:=rx;exact TY hu I2 g ry λs3 I3=>⟨.bl ov.isSome,H2,I3,rfl,q2⟩
def dC (hu:X.A.units+1 < cLine)(hi:PE X i ty)(ho:PE X o td):PC X .NotIn i o (Co ty td):=by
 intro ag s σ H Q I h;refine dB (hi ag s σ H _ I h) λiv s1 bI=>?_;obtain⟨y,H1,I1,ry,q1⟩:=bI;refine dB (ho ag s1 σ H1 _ I1 q1) λu s2 bI=>?_;obtain⟨x,H2,I2,rx,a,ov,ex,g,q2⟩:=bI;subst ex;obtain rfl:u=Value.ref a:=rx;exact LD hu I2 g ry λs3 I3=>⟨.bl (!ov.isSome),H2,I3,rfl,q2⟩
def fC (hu:X.A.units+1 < cLine)(ho:PE X o td)(hi:PE X i ty)(hv:PE X value tv)(hs:swapsWith value (some (.Subscript o i pos')) pos.line X.env=pure false) :
  PS X (.Assign [.Subscript o i pos'] value pos) (Ri td ty tv):=by
 intro ag s σ H D I h;refine wpAny_Assign_Subscript (dB (hv ag s σ H _ I h) λr s1 bI=>?_) hs;obtain⟨v,H1,I1,rv,q1⟩:=bI;refine dB (ho ag s1 σ H1 _ I1 q1) λu s2 bI=>?_;obtain⟨x,H2,I2,rx,q2⟩:=bI;refine dB (hi ag s2 σ H2 _ I2 q2) λiv s3 bI=>?_;obtain⟨y,H3,I3,ry,a,H4,ex,g,q3⟩:=bI;subst ex;obtain rfl:u=Value.ref a:=rx;exact ET hu I3 g ry rv λs4 I4=>⟨σ,H4,I4,q3⟩
end
def zz {P:Program}{w:World}{H:Hp}(h:Heap)(hb:sysModules < h.objs.size):cP P w H (h.push { cls:=.type "dict",data:=.dict #[] }) h.objs.size (.dK []) :=
 ⟨gp _,kc.mpr (d8 (bU hb)),[],.nil,Heap.DictOf.new h⟩
def IV {P:Program}{w:World}{H:Hp}(h:Heap)(hb:sysModules < h.objs.size):cP P w H (h.push { cls:=.type "dict",data:=.dict #[] }) h.objs.size (.dT []) :=
 ⟨gp _,kc.mpr (d8 (bU hb)),[],.nil,_,#[],0,dA _ rfl,⟨rfl,rfl,rfl⟩,rfl,rfl,gE⟩
def FO:TE:=λ_ H Q=>∀p,H p=none->Q (.ref p) (upd H p (.dK []))
def Nr:TE:=λ_ H Q=>∀p,H p=none->Q (.ref p) (upd H p (.dT []))
section
variable {X:Cx}{pos:Pos}
def fR:PE X (.Dict [] [] pos) FO:=λag s σ H Q I h =>
 wpAny_Dict_empty ⟨180,_,I.laid (a:=s.heap.objs.size) (o:=.dK []) (t':=s.toks) (λ_ _ q=>b9 _ q) (aG _) (zz s.heap I.big),rfl,h _ (I.cu.fresh (aG _))⟩
def sG:PE X (.Dict [] [] pos) Nr:=λag s σ H Q I h =>
 wpAny_Dict_empty ⟨180,_,I.laid (a:=s.heap.objs.size) (o:=.dT []) (t':=s.toks) (λ_ _ q=>b9 _ q) (aG _) (IV s.heap I.big),rfl,h _ (I.cu.fresh (aG _))⟩
end
def Az:List (TE×TE)->St->Hp->(List (V×V)->Hp->Prop)->Prop
 | [],_,H,Q=>Q [] H
 | (tk,tv)::r,σ,H,Q=>tk σ H λx H1=>tv σ H1 λy H2=>Az r σ H2 λps H3=>Q ((x,y)::ps) H3
abbrev VV:List (V×V)->List (Value×Value)->Prop:=Paired λp q=>RelV p.1 q.1/\RelV p.2 q.2
def V4 (X:Cx)(pos:Pos)(keys:List (Option Expr))(values:z0r)(JX:List (TE×TE)):Prop :=
 ∀(ag:z0e)(s:Shared)(σ:St)(H:Hp)(Q:List (V×V)->Hp->Prop),133->Az JX σ H Q ->
  wpAny 145 X.A (evalPairs (pairTrees keys values X.env pos)) (λvs s'=>∃ps H',Inv X ag σ H' s'/\VV ps vs/\Q ps H') X.xe s
def Km {X:Cx}{pos:Pos}:V4 X pos [] [] []:=λag s σ H Q I h=>pairTrees_nil_walk ⟨[],H,I,.nil,h⟩
def G1 {X:Cx}{pos:Pos}{k v:Expr}{ks:List (Option Expr)}{vs:z0r}{tk tv:TE}{JX:List (TE×TE)}(hk:PE X k tk)(hv:PE X v tv)(hr:V4 X pos ks vs JX) :
  V4 X pos (some k::ks) (v::vs) ((tk,tv)::JX):=λag s σ H Q I h =>
 pairTrees_cons_walk (dB (hk ag s σ H _ I h) λu s1 ⟨x,H1,I1,rx,q1⟩=>dB (hv ag s1 σ H1 _ I1 q1) λw2 s2 ⟨y,H2,I2,ry,q2⟩ =>
  dB (hr ag s2 σ H2 _ I2 q2) λws s3 ⟨ps,H3,I3,rel,q3⟩=>⟨(x,y)::ps,H3,I3,.cons ⟨rx,ry⟩ rel,q3⟩)
def mM (kvs more:87):87:=more.foldl (λbX kv=>bQ bX kv.1 kv.2) kvs
def KV.merge:∀{more:87}{rs:List (aN×Value)}{kvs:87}{vs:List (aN×Value)},KV more rs->KV kvs vs->KV (mM kvs more) (merged vs rs):=by
 intro more rs kvs vs r;unfold KV at r
 induction r generalizing kvs vs with
 | nil=>intro q;exact q
 | @cons p q ps qs h t ih =>
  intro r0;have e:KV (bQ kvs p.1 p.2) (stored vs q.1 q.2):=by
   have:=r0.put p.1 h.2;rw [<-h.1];exact this
  exact ih e
theorem lX:∀(more kvs:87),(mM kvs more).length<=kvs.length+more.length
 | [],kvs=>by show kvs.length<=kvs.length+0;omega
 | p::r,kvs=>by
  have h1:=lX r (bQ kvs p.1 p.2);have h2:=fX kvs p.1 p.2;show (mM (bQ kvs p.1 p.2) r).length<=_;rw [dI];omega
theorem tT {P:Program}{w:World}:∀{kvs:87}{ws:List (Value×Value)},VV (kvs.map λkv=>(kV kv.1,kv.2)) ws->∃rs,Carries (aX P w) ws rs/\KV kvs rs
 | [],_,r=>by rw [ml] at r;cases r;exact⟨[],True.intro,.nil⟩
 | p::kvs,_,r=>by
  rw [cD] at r;cases r with
  | @cons a b as bs h t =>
   obtain⟨rs,c,q⟩:=tT (P:=P) (w:=w) t;obtain⟨b1,b2⟩:=b;exact⟨(p.1,b2)::rs,⟨lZ h.1,rfl,c⟩,.cons ⟨rfl,h.2⟩ q⟩
def Q0 (JX:List (TE×TE)):TE:=λσ H Q=>∀p,H p=none->Az JX σ (upd H p (.dK [])) λps H2=>H2 p=some (.dK [])/\∃kvs:87,ps=kvs.map (λkv=>(kV kv.1,kv.2))/\kvs.length<=15/\Q (.ref p) (upd H2 p (.dK (mM [] kvs)))
def Kt {X:Cx}{pos:Pos}{keys:List (Option Expr)}{values:z0r}{JX:List (TE×TE)}(h:V4 X pos keys values JX)(qt:keys.all (·.isSome)=true)(hl:keys.length=values.length)(h0:keys≠[])
  (Zi:keys.length<=15):PE X (.Dict keys values pos) (Q0 JX):=by
 intro ag s σ H Q I q;have hn:=I.cu.fresh (aG s.heap.objs.size);have I1:=I.laid (a:=s.heap.objs.size) (o:=.dK []) (h':=s.heap.push { cls:=.type "dict",data:=.dict #[] }) (t':=s.toks) (λ_ _ q=>b9 _ q) (aG _) (zz s.heap I.big);refine wpAny_Dict_walk (knd:=aX X.prog X.w) qt hl h0 Zi (dB (h ag _ σ _ _ I1 (q _ hn)) λws s2 bI=>?_);obtain⟨ps,H2,I2,rel,e,kvs,ep,lk,q2⟩:=bI;subst ep;obtain⟨rs,c,rk⟩:=tT (P:=X.prog) (w:=X.w) rel;obtain⟨z,hd,vs0,r0,dd⟩:=vF I2.cu e;cases r0;refine⟨rs,c,dd,λh' JO hs=>⟨180,_,?_,rfl,q2⟩⟩;have hz:(mM [] kvs).length<=sizeLine:=by
  have h1:=lX kvs [];rw [j_] at h1;rw [mj];omega
 have he:∃q,h'.get? s.heap.objs.size=some q:=let ⟨q,_,_,hq,_⟩:=JO;⟨q,hq⟩;exact qQ I2 (by rw [e];exact True.intro) hs he (tM hz hd (rk.merge .nil) JO)
structure M1 (X:Cx)(o:Expr)(m:Str)(apos:Pos)(e:Expr)(gZ:Pos):Prop where
 base:attributeBase o m X.env (eval o X.env)=eval o X.env
 qO:((backTo gZ (starEach [e] X.env)).all (λx=>!x.1) && (backToKw gZ (keywordEach [] X.env)).all (λx=>x.1.isSome)
  && decide (([e]:z0r).length+([]:List Keyword).length+(if ([]:List Keyword).isEmpty then 0 else 1) < 30))=true
 line:(apos.endLine == gZ.line)=true
 trees:backTo gZ (starEach [e] X.env)=[(false,eval e X.env)]
structure M2 (X:Cx)(o:Expr)(m:Str)(apos:Pos)(e f:Expr)(gZ:Pos):Prop where
 base:attributeBase o m X.env (eval o X.env)=eval o X.env
 qO:((backTo gZ (starEach [e,f] X.env)).all (λx=>!x.1) && (backToKw gZ (keywordEach [] X.env)).all (λx=>x.1.isSome)
  && decide (([e,f]:z0r).length+([]:List Keyword).length+(if ([]:List Keyword).isEmpty then 0 else 1) < 30))=true
 line:(apos.endLine == gZ.line)=true
 trees:backTo gZ (starEach [e,f] X.env)=[(false,eval e X.env),(false,eval f X.env)]
def V7 (H:Hp)(a:Addr):Prop:=(∃kvs,Rd H a (.dK kvs))\/∃kvs,Rd H a (.dT kvs)
def BD {X:Cx}{ag:z0e}{σ:St}{H:Hp}{s:Shared}{a:Addr}(I:133)(d:V7 H a) :
  s.TypeIs (.ref a) "dict" /\ (∀b,Value.ref a=.ref b->∃ob,s.heap.get? b=some ob/\ob.dict=none)/\(a == sysModules)=false:=by
 rcases d with ⟨kvs,e⟩ | ⟨kvs,e⟩
 .obtain⟨_,hd,vs,_,dd⟩:=mf I.cu e;refine⟨dd.typeIs,λb q=>?_,hd⟩;cases q;obtain⟨ob,_,_,h1,h2,_⟩:=dd;exact⟨ob,h1,h2.2.1⟩
 obtain⟨_,hd,xs,_,dd⟩:=tL I.cu e;refine⟨dd.typeIs,λb q=>?_,hd⟩;cases q;obtain⟨ob,_,_,h1,h2,_⟩:=dd;exact⟨ob,h1,h2.2.1⟩
section
variable {X:Cx}{ag:z0e}{σ:St}{H:Hp}{s:Shared}{a:Addr}{y d:V}{u r:Value}{o:Option V}{A:Around}{E:z0b}
def Pq {Q:z0b}(hu:A.units+1 < cLine)(I:133)(g:cg H a y o)(ry:RelV y u)(rd:RelV d r)(h:∀w' s',Inv X ag σ H s'->RelV (o.getD d) w'->Q w' s') :
  wpAny 145 A (call (.builtin "dict.get") [.ref a,u,r]) Q E s:=by
 rcases g with ⟨kvs,k,e,ey,l⟩ | ⟨kvs,k,b,e,ey,eb,l⟩
 .subst ey;obtain⟨z,hd,vs,rel,dd⟩:=mf I.cu e;refine call_meetsIn PySem.F.slot_dict_get dd.typeIs PySem.F.entry_dict_get (PySem.F.args_dict_get_3 _ _ _) (meets_dict_get_default (aX X.prog X.w) a (lZ ry) hd r) ⟨_,dd.mapOf,h _ _ (I.tok _) ?_⟩;rw [l];exact(rel.val k).getD rd
 subst ey;cases (show u=Value.ref b from ry);obtain⟨z,hd,xs,rel,dd⟩:=tL I.cu e;refine call_meetsIn PySem.F.slot_dict_get dd.typeIs PySem.F.entry_dict_get (PySem.F.args_dict_get_3 _ _ _) (meetsH_dict_get_default (tupleKind (aX X.prog X.w)) a b hd r) ⟨oT hu,k,xs,mR I.cu eb,dd,h _ _ (I.tok _) ?_⟩;rw [l];exact(rel.val k).getD rd
end
def FP (td ty tx:TE):TE:=λσ H Q=>td σ H λx H1=>V1 x (V7 H1) λa=>ty σ H1 λy H2=>tx σ H2 λz H3=>XDo (cg H3 a y) λo=>Q (o.getD z) H3
section
variable {X:Cx}{o e f:Expr}{apos gZ:Pos}{td ty tx:TE}
def iP (hu:X.A.units+1 < cLine)(ho:PE X o td)(he:PE X e ty)(hf:PE X f tx)(m:M2 X o "get" apos e f gZ):PE X (.Call (.Attribute o "get" apos) [e,f] [] gZ) (FP td ty tx):=by
 intro ag s σ H Q I h;refine wpAny_Call_method m.base m.qO m.line An PySem.F.slot_dict_get PySem.F.type_dict_get (dB (ho ag s σ H _ I h) λu s1 bI=>?_);obtain⟨x,H1,I1,rx,a,ex,d,q1⟩:=bI;subst ex;obtain rfl:u=Value.ref a:=rx;obtain⟨t1,t2,_⟩:=BD I1 d;refine⟨t1,t2,?_⟩;rw [m.trees];refine rG rfl (wc (oS (dB (he ag s1 σ H1 _ I1 q1) λiv s2 ⟨y,H2,I2,ry,q2⟩ =>
  oS (dB (hf ag s2 σ H2 _ I2 q2) λfv s3 ⟨z,H3,I3,rz,ov,g,q3⟩=>Calls.spliced_nil ?_))))
 exact Pq hu I3 g ry rz λw' s4 I4 A0=>⟨_,H3,I4,A0,q3⟩
end
section
variable {X:Cx}{ag:z0e}{σ:St}{H:Hp}{s:Shared}{a:Addr}{kvs:87}{A:Around}{E:z0b}
end
section
variable {X:Cx}{ag:z0e}{σ:St}{H:Hp}{s:Shared}{a:Addr}{y:V}{u:Value}{A:Around}{E:z0b}
end
end L2
set_option maxHeartbeats 4000000
namespace L2
open PySem
def xB:typeLookup (.type "list") "keys"=pure none:=by rw [typeLookup_type,builtinLookup_eq_fast];kernel_rfl
def xC:typeLookup (.type "list") "__getattr__"=pure none:=by rw [typeLookup_type,builtinLookup_eq_fast];kernel_rfl
section
variable {prog:Program}{w:World}{A:Around}{E:z0b}{h:Heap}{g:Array GenState}{d:Drawn}{t:Nat}{os:OsState}{a:Addr}{o:Obj}
def FU:isSubtype (.type "AttributeError") (.type "AttributeError")=pure true:=by rw [isSubtype_type];kernel_rfl
def N5 {m:Str}{tk:Tok}:ownMembersOf (.type "AttributeError") [.str m tk]=#[unsetMember,unsetMember]:=by kernel_rfl
def IK {m:Str}{tk:Tok}:firstArgMember (.type "AttributeError") [.str m tk]=pure .none:=by kernel_rfl
def A3 {α:Type}{self:Value}{name msg:Str}{Q:α->Shared->Prop}(hm:msg.length<=sizeLine)(hh:A.handled=none)
  (hq:∀h' t' e oe,(∀b o,h.get? b=some o->h'.get? b=some o)->h'.get? e=some oe->oe.cls=.type "AttributeError" -> E (.ref e) ⟨h',g,d,t',os⟩) :
  wpAny 150 A (raiseAttrError self name msg) Q E ⟨h,g,d,t,os⟩:=by
 have f1:=FU;unfold raiseAttrError newExc;refine aA (wpAny_mkStr ?_ hm);have fe:=IK (m:=msg) (tk:=t);rw [N5]
 repeat (any_goals (first | assumption | wp_step))
 unfold raiseNew;refine aA (wpAny_handled ?_);rw [hh];refine aA (aH ?_);refine wpAny_throw ?_;refine hq _ _ _ _ (λb o q=>?_) (rF _ (dA _ rfl) rfl) rfl;have lt:=bC q;rw [uO _ _ (by rw [oJ];exact lN (rp lt))];exact b9 _ (b9 _ q)
def Bv {tk:Tok}{aT:z0l}{n:Nat}{Q:Fin->Shared->Prop}(hx:h.get? a=some { cls:=.type "list",data:=.seq aT n })(hh:A.handled=none)
  (hq:∀h' t' e oe,(∀b o,h.get? b=some o->h'.get? b=some o)->h'.get? e=some oe->oe.cls=.type "AttributeError" -> E (.ref e) ⟨h',g,d,t',os⟩) :
  wpAny 150 A (Builtin.«object.__getattribute__» ⟨[.ref a,.str "keys" tk],[]⟩) Q E ⟨h,g,d,t,os⟩:=by
 have hT:(⟨h,g,d,t,os⟩:Shared).TypeIs (.ref a) "list" := ⟨_,hx,rfl⟩;have f4:=xB
 repeat (any_goals (first | assumption | wp_step))
 exact A3 nofun hh hq
def pC {aT:z0l}{n:Nat}{Q:z0k->Shared->Prop}(hx:h.get? a=some { cls:=.type "list",data:=.seq aT n })(hh:A.handled=none)
  (hq:∀h' t',(∀b o,h.get? b=some o->h'.get? b=some o)->Q none ⟨h',g,d,t',os⟩):wpAny 150 A (getAttr? (.ref a) "keys") Q E ⟨h,g,d,t,os⟩:=by
 have hT:∀t',(⟨h,g,d,t',os⟩:Shared).TypeIs (.ref a) "list" := λt'=>⟨_,hx,rfl⟩;have f1:=FU;have f2:=wA.lookup;have f3:=wA.bind (.ref a);have f4:=xC;unfold getAttr? getAttrBy? getAttrBy;refine aA (wpAny_mkText (aA (oF (jZ (aA (i7 (hT _) ?_))))));rw [f2];refine aA (aH ?_);show wpAny _ _ (getAttrByItsOwn _ _ _ _ _ _) _ _ _;unfold getAttrByItsOwn;refine aA (aH (a:=none) (aA (oF (jZ ?_))));show wpAny _ _ (boundAndCalled _ _ _) _ _ _;unfold boundAndCalled;rw [f3];refine aA (aH (ki (wk wA.plain F.entry_list_ga (wA.check _ _ _ _ _ _ _ _ (hT _) (F.args_list_getattribute_2 _ _) (Bv hx hh λh' t' e oe k ee ec=>?_)))));have te:(⟨h',g,d,t',os⟩:Shared).TypeIs (.ref e) "AttributeError" := ⟨oe,ee,ec⟩;show wpAny _ _ (getattributeRaised _ _ _ _ _ _ _) _ _ _;unfold getattributeRaised;refine aA (wpAny_isInstance te f1 ?_);rw [aw rfl];show wpAny _ _ (typeLookup _ _ >>= _) _ _ _;rw [f4];refine aA (aH ?_);show wpAny _ _ (throw _) _ _ _;refine wpAny_throw ?_;refine aA (wpAny_isInstance te f1 ?_);rw [aw rfl];exact aH (hq h' t' k)
end
def f_:plainId "dict.update.loop"=true:=by decide +kernel
def lI:entryFor table "dict.update.loop"=some Builtin.«dict.update.loop»:=entryFor_of_tree (nofun)
section
variable {prog:Program}{w:World}{K:Type} [DecidableEq K] {knd:KeyKind prog w K}{A:Around}{E:z0b}
def m_ (knd:KeyKind prog w K)(h:Heap)(u:Value)(kv:K×Value):Prop :=
 ∃t key n o,u=.ref t/\knd.is kv.1 key=true/\h.get? t=some o/\o.cls=.type "tuple" /\ o.data=.seq #[key,kv.2] n
def m_.keep {h h':Heap}{u:Value}{kv:K×Value}(p:m_ knd h u kv)(k:∀b o,o.cls=.type "tuple" -> h.get? b=some o->h'.get? b=some o):m_ knd h' u kv :=
 let ⟨t,key,n,o,a,b,c,d,e⟩:=p;⟨t,key,n,o,a,b,k t o d c,d,e⟩
def IU {R:Result->Shared->Prop}{d it l:Addr}{items:z0l}(hh:A.handled=none):∀(more:List (K×Value)) (i:Nat)(s:Shared)(kvs:List (K×Value)) (j:Int)(tk:Tok),items.size=i+more.length ->
  s.heap.DictOf knd d kvs->s.heap.IsListIter it l i->s.heap.IsList l items->(∀m kv,more[m]?=some kv->∃u,items[i+m]?=some u/\m_ knd s.heap u kv)->kvs.length+more.length<=sizeLine ->
  (∀h' t',h'.DictOf knd d (more.foldl (λa p=>stored a p.1 p.2) kvs)->(∀b o,b≠d->b≠it->158->h'.get? b=some o)->R (.ok (.ret .none)) { s with heap:=h',toks:=t' }) ->
  codeAny 150 A (.builtin "dict.update.loop" ⟨[.ref d,.ref it,.int j tk,.none],[]⟩) R s:=by
 intro more
 induction more with
 | nil =>
  intro i s kvs j tk hi hd hit hl hp hz hR;refine q0 lI ?_;rw [rA f_ _];unfold Builtin.«dict.update.loop»;have hs:items[i]?=none:=Ag (by rw [hi];exact aG _);refine aA (wu hh hit hl hs λh1 eb=>?_);have nd:d≠it:=λz=>by
   obtain⟨o,_,_,q,_,c,_⟩:=hd;obtain⟨o',q',_,c'⟩:=hit;rw [z,q'] at q;cases q;rw [c'] at c;cases c
  show wpAny _ _ (Builtin.Dict.addKeywords d [] >>= _) _ _ _;exact aA (aH (aH (hR h1 s.toks (hd.extBut eb nd) λb o n1 n2 q=>eb b o n2 q)))
 | cons kv more ih =>
  intro i s kvs j tk hi hd hit hl hp hz hR;refine q0 lI ?_;rw [rA f_ _];unfold Builtin.«dict.update.loop»;obtain⟨u,hu,t,key,n,o,rfl,hk,ho,hc,uC⟩:=hp 0 kv rfl;refine aA (wpAny_pyNext_list_item hit hl hu λh1 Yb sb=>?_);have nd:d≠it:=λz=>by
   obtain⟨o,_,_,q,_,c,_⟩:=hd;obtain⟨o',q',_,c'⟩:=hit;rw [z,q'] at q;cases q;rw [c'] at c;cases c
  have n2:∀b o,(o.cls=.type "tuple" \/ o.cls=.type "list")->158->b≠d/\b≠it:=by
   intro b o c q;constructor
   .intro z;obtain⟨o',q',c'⟩:=hd.typeIs;rw [z,q'] at q;cases q;rw [c'] at c;rcases c with c | c <;> exact absurd c nofun
   intro z;obtain⟨o',q',c',_⟩:=hit;rw [z,q'] at q;cases q;rw [c'] at c;rcases c with c | c <;> exact absurd c nofun
  have nt:∀b o,o.cls=.type "tuple" -> 158->b≠d/\b≠it:=λb o c q=>n2 b o (.inl c) q;have nl:l≠d/\l≠it:=by
   obtain⟨o,q,c,_⟩:=hl;exact n2 l o (.inr c) q
  have MJ:h1.get? t=some o:=(sb.2 t (nt t o hc ho).2).trans ho;have MM:h1.DictOf knd d kvs:=hd.sameBut sb nd;refine aA (jZ (aA (wpAny_tryCatch ?_)));unfold Builtin.Dict.pairItems;refine aA (i7 (T := "tuple") ⟨o,MJ,hc⟩ ?_);rw [aw nofun];refine aA (qZ MJ uC (aH ?_));show wpAny _ _ (holding [key,kv.2] (dictSet d key kv.2)) _ _ _;rw [dI] at hz hi;refine jZ (wpAny_dictSet_pairs (s:={ s with heap:=h1 }) hk MM (λh2 hd2 Rh=>?_) ∅);have kk:∀b o,b≠d->b≠it->158->h2.get? b=some o:=λb o n1 n2 q=>(Rh.2 b n1).trans ((sb.2 b n2).trans q);have ln:(stored kvs kv.1 kv.2).length<=kvs.length+1:=by
   unfold stored
   split
   .simp
   simp
  refine aH ⟨kr f_ _,ih (i+1) _ _ _ _ ∅ hd2 (Yb.at λo q=>(Rh.2 it (d8 nd)).trans q) (hl.at λo q=>kk l o nl.1 nl.2 q) (λm X4 e=>?_) ∅ λh3 t3 iW k3=>?_⟩
  .obtain⟨u',e1,e2⟩:=hp (m+1) X4 e;exact⟨u',by rw [<-e1];congr 1;omega,e2.keep λb o c q=>kk b o (nt b o c q).1 (nt b o c q).2 q⟩
  exact hR h3 t3 iW λb o n1 n2 q=>k3 b o n1 n2 (kk b o n1 n2 q)
def AA:(Value.type "list" != Value.type "dict")=true:=by decide
def tU {s:Shared}{l:Addr}{items:z0l}{n:Nat}{more:List (K×Value)}{Q:z0b}(knd:KeyKind prog w K)(hh:A.handled=none)(hx:s.heap.get? l=some { cls:=.type "list",data:=.seq items n })
  (hi:items.size=more.length)(hp:∀(m:Nat) kv,more[m]?=some kv->∃u,items[m]?=some u/\m_ knd s.heap u kv)(hz:more.length<=sizeLine)
  (h:∀h' t',h'.DictOf knd s.heap.objs.size (more.foldl (λa p=>stored a p.1 p.2) [])->(∀b o,158->h'.get? b=some o)->Q (180) { s with heap:=h',toks:=t' }) :
  wpAny 150 A (call (.type "dict") [.ref l]) Q E s:=by
 refine callType_codes (Q₁:=λobj s₁=>obj=180/\s₁={ s with heap:=s.heap.push { cls:=.type "dict",data:=.dict #[] } }) F.kt_called_dict (F.kt_typeCall_dict_1 _) F.entry_dict_init (kt_code_dict_new _ ⟨rfl,rfl⟩) ?_;rintro obj s₁ ⟨rfl,rfl⟩;have Bl:(s.heap.push { cls:=.type "dict",data:=.dict #[] }).DictOf knd s.heap.objs.size []:=Heap.DictOf.new s.heap;have l0:=b9 { cls:=.type "dict",data:=.dict #[] } hx;refine⟨Bl.typeIs,F.args_dict_init_2 _ _,?_⟩;unfold Builtin.«dict.__init__» Builtin.Dict.selfAndRest;refine aA (aA (wt Bl.typeIs (aH ?_)));show wpAny _ _ (Builtin.Dict.updateFrom "dict.__init__" s.heap.objs.size (.ref l) [] .none) _ _ _;unfold Builtin.Dict.updateFrom;refine aA (i7 (T := "list") ⟨_,l0,rfl⟩ ?_);rw [aw AA];refine aA (pC l0 hh λh1 t1 k1=>?_);refine aA (kj ?_);have l1:=k1 _ _ l0;refine aA (oP ⟨_,l1,rfl,_,rfl⟩ ?_);have k2:∀b o,158->(h1.push { cls:=.type "list_iterator",data:=.fields #[.ref l,.int 0 0] }).get? b=some o:=λb o q=>b9 _ (k1 _ _ (b9 _ q));refine aH ⟨kr f_ _,IU (knd:=knd) (A:=A.in1) (l:=l) (items:=items) (show A.in1.handled=none from hh) more 0 _ [] _ _ (by rw [hi,oH]) ?_ ⟨_,dA _ rfl,rfl,rfl⟩ ⟨_,k2 _ _ hx,rfl,n,rfl⟩ (λm kv e=>?_) (by simpa using hz) λh' t' hd k3=>?_⟩
 .obtain⟨o,es,ep,q,r⟩:=Bl;exact⟨o,es,ep,b9 _ (k1 _ _ q),r⟩
 .obtain⟨u,e1,e2⟩:=hp m kv e;exact⟨u,by rw [oH];exact e1,e2.keep λb o _ q=>k2 b o q⟩
 refine⟨rfl,h h' t' hd λb o q=>k3 b o (bU (bC q)) ?_ (k2 b o q)⟩;have:=bC (k1 _ _ (b9 { cls:=.type "dict",data:=.dict #[] } q));exact bU this
end
open PySem PySem.Spec PyProof.Rows
def E7 (X:Cx)(ifs:z0r)(t:TT):Prop :=
 ∀(ag:z0e)(s:Shared)(σ:St)(H:Hp)(Q:Bool->Hp->Prop),133->t σ H Q ->
  wpAny 145 X.A (forIn ifs true λc r=>if r=true then do let ok <-isTrue c X.env (eval c X.env);pure (ForInStep.yield ok) else pure (ForInStep.yield r)) (TP X ag σ Q) X.xe s
def hV:TT:=λ_ H Q=>Q true H
def bD {X:Cx}:E7 X [] hV:=λ_ _ _ H _ I h=>wpAny_tests_nil ⟨H,I,h⟩
def gb {X:Cx}{c:Expr}{t:TT}(h:PT X c t):E7 X [c] t:=λag s σ H Q I hw=>wpAny_tests_one (h ag s σ H Q I hw)
def qd {prog:Program}{w:World}{A:Around}{R:Result->Shared->Prop}{s:Shared}{elt target iter:Expr}{ifs:z0r}{scope:Scope}{pos:Pos}{it bX:Value}{env:Env}(I:Nat->Shared->Prop)
  (turn:∀n s,I n s->wpAny 150 A (pyNext it) (λr s₁=>match r with
   | none=>R (.ok .next) s₁
   | some v=>wpAny 150 A (letOwnedTupleGo target it v) (λ_ s₁=>wpAny 150 A (assign target env v) (λ_ s₂ =>
     wpAny 150 A (forIn ifs true λc r=>if r=true then do let ok <-isTrue c env (eval c env);pure (ForInStep.yield ok) else pure (ForInStep.yield r)) (λok s₃ =>
      if ok=true then wpAny 150 A (eval elt env) (λx s₄ =>
       wpAny 150 A (call (.builtin "list.append") [bX,x]) (λ_ s₅=>∃m,m < n/\I m s₅) (λ_ _=>False) s₄) (λ_ _=>False) s₃
      else ∃m,m < n/\I m s₃) (λ_ _=>False) s₂) (λ_ _=>False) s₁) (λ_ _=>False) s₁) (λ_ _=>False) s)
  (n:Nat)(h:I n s) :
  codeAny 150 A (.compLoop (.ListComp elt [⟨target,iter,ifs,0⟩] scope pos) 0 it bX env) R s:=by
 refine codeAny_loop rfl I (λn s hI=>?_) n h;show wpAny _ A ((compTurn (.ListComp elt [⟨target,iter,ifs,0⟩] scope pos) 0 it bX env).onRaise (λx=>do noteFrame x env;theTreesLotGoes x)) _ _ s;refine wpAny_noted ?_;rw [compTurn_list];refine aA (wpAny_standAt (aA (dS (turn n s hI) (λr s₁ h₁=>?_) λ_ _ h'=>h'.elim)));cases r with
 | none=>exact aH h₁
 | some v =>
  refine aA (dS h₁ (λ_ s₂ h₂=>?_) λ_ _ h'=>h'.elim);refine aA (dS h₂ (λ_ s₂ h₂=>aA (dS h₂ (λok s₃ h₃=>?_) λ_ _ h'=>h'.elim)) λ_ _ h'=>h'.elim);cases ok with
  | false=>exact aH ⟨rfl,h₃⟩
  | true =>
   exact aA (aA (dS h₃ (λx s₄ h₄=>aA (dS h₄ (λ_ s₅ h₅=>aH (aH ⟨rfl,h₅⟩)) λ_ _ h'=>h'.elim)) λ_ _ h'=>h'.elim))
def DQ {X:Cx}{a:Expr}{ta:TE}(K:bp)(ha:PE X a ta)(he:∀whole,isTrue a X.env whole=(do let v <-whole;standAt a.pos;holding [v] (truthy v)))(hK:X.K=K:=by rfl) :
  PT X a (λσ H Q=>ta σ H λx H'=>∃k,Jk K x H' k/\Q k H'):=by
 subst hK;exact iN ha he
structure LX (env:Env)(scope:Scope)(cl:z0f):Prop where
 eq:closureFor scope env=pure cl
 sub:∀y c,cl.lookup y=some c->env.cells.lookup y=some c
 all:∀y,(y,NameKind.free)∈scope.names->∃c,cl.lookup y=some c
def jQ {y n:Str}{c:Addr}{l:z0f}:((n,c)::l).lookup y=if y=n then some c else l.lookup y:=by
 by_cases h:y=n
 .rw [aw h];simp [List.lookup,h]
 rw [ar h];simp [List.lookup,kc.mpr h]
def xT {env:Env}{scope:Scope}(h:∀y,(y,NameKind.free)∈scope.names->∃c,env.cells.lookup y=some c):∃cl,LX env scope cl:=by
 have go:∀(names:List (Str×NameKind))(bX:z0f),(∀y,(y,NameKind.free)∈names->∃c,env.cells.lookup y=some c)->(∀y c,bX.lookup y=some c->env.cells.lookup y=some c) ->
   ∃cl,(forIn names bX λ(x:Str×NameKind)(cs:z0f)=>(if x.2 == .free then do let c <-cellOf env x.1;pure (ForInStep.yield ((x.1,c)::cs)) else pure (ForInStep.yield cs):Sem (ForInStep z0f)))=pure cl /\
    (∀y c,cl.lookup y=some c->env.cells.lookup y=some c)/\(∀y,(y,NameKind.free)∈names->∃c,cl.lookup y=some c)/\∀y c,bX.lookup y=some c->∃c',cl.lookup y=some c':=by
  intro names
  induction names with
  | nil=>intro bX _ hs;exact⟨bX,rfl,hs,λy hy=>absurd hy 135,λy c e=>⟨c,e⟩⟩
  | cons x r ih =>
   intro bX hf hs;obtain⟨n,k⟩:=x;rw [List.forIn_cons];by_cases hk:k=.free
   .subst hk;obtain⟨c0,e0⟩:=hf n cR;obtain⟨cl,e1,e2,e3,e4⟩:=ih ((n,c0)::bX) (λy hy=>hf y (cS _ hy)) (λy c e=>by
     rw [jQ] at e;by_cases z:y=n
     .rw [aw z] at e;cases e;rw [z];exact e0
     rw [ar z] at e;exact hs y c e)
    refine⟨cl,?_,e2,λy hy=>?_,λy c e=>?_⟩
    .rw [<-e1];have:cellOf env n=pure c0:=by unfold cellOf;rw [e0]
     simp only [this];rfl
    .rcases b8.mp hy with z | z
     .cases z;exact e4 n c0 (by rw [jQ,aw rfl])
     exact e3 y z
    by_cases z:y=n
    .exact e4 y c0 (by rw [jQ,aw z])
    exact e4 y c (by rw [jQ,ar z];exact e)
   obtain⟨cl,e1,e2,e3,e4⟩:=ih bX (λy hy=>hf y (cS _ hy)) hs;refine⟨cl,?_,e2,λy hy=>?_,e4⟩
   .rw [<-e1];have:(k == NameKind.free)=false:=by simpa using hk
    simp only [this];rfl
   rcases b8.mp hy with z | z
   .cases z;exact absurd rfl hk
   exact e3 y z
 obtain⟨cl,e1,e2,e3,_⟩:=go scope.names [] h (λy c e=>by simp at e);refine⟨cl,?_,e2,e3⟩;unfold closureFor;exact Eq.trans (congrArg (λt:Sem z0f=>t >>= λcs=>pure cs) e1) rfl
def xr {scope:Scope}{env:Env}{y:Str}(hk:env.scope.kind=.function)(hy:scope.names.lookup y=some .free)(he:env.kindOf y=some .cell):(relabel scope env).names.lookup y=some .cell:=by
 have go:∀l:List (Str×NameKind),l.lookup y=some .free->(l.map λ(x:Str×NameKind)=>if (x.2 == NameKind.free && env.scope.kind == .function && env.kindOf x.1 == some .cell) then (x.1,NameKind.cell) else (x.1,x.2)).lookup y=some .cell:=by
  intro l
  induction l with
  | nil=>intro z;cases z
  | cons x r ih =>
   obtain⟨n,k⟩:=x;intro hy;rw [cD];by_cases z:y=n
   .subst z;simp [List.lookup] at hy;subst hy;simp [List.lookup,hk,he]
   have zb:(y == n)=false:=kc.mpr z;simp only [List.lookup,zb] at hy;have:=ih hy;dsimp only
   split <;> simp only [List.lookup,zb] <;> exact this
 exact go _ hy
theorem xA {α:Type}{y:Str}{v:α}:∀{l:List (Str×α)},l.lookup y=some v->(y,v)∈l
 | [],h=>by cases h
 | (n,u)::r,h=>by
  by_cases z:y=n
  .subst z;simp [List.lookup] at h;subst h;exact cR
  have zb:(y == n)=false:=kc.mpr z;simp only [List.lookup,zb] at h;exact cS _ (xA h)
def nW {scope:Scope}{env:Env}{y:Str}{k:NameKind}(h:(relabel scope env).names.lookup y=some k)(hk:k=.cell\/k=.free)(hc:∀z∈scope.names,z.2≠.cell):(y,NameKind.free)∈scope.names:=by
 have m:=xA h;unfold relabel at m;obtain⟨⟨n,k'⟩,m1,m2⟩:=bY.mp m;dsimp only at m2
 split at m2
 .rename_i q
  cases m2;simp at q;obtain⟨⟨q,_⟩,_⟩:=q;subst q;exact m1
 cases m2;rcases hk with hk | hk
 .exact absurd hk (hc _ m1)
 rw [<-hk];exact m1
def tN (X:Cx)(scope:Scope)(cl:z0f)(C:Addr)(s1:Shared)(H1:Hp) (N:z0t)(fp:z0q):Cx :=
 { X with N:=N,s₀:=s1,H₀:=H1,env:=compEnvC scope cl C X.env,outer:=X.stack,stack:=X.stack,ex:=fp,fn:=λ_=>false,pn:=[],xe:=λ_ _=>False }
structure LY (X:Cx)(scope:Scope)(js:z0j):Prop where
 at_:∀p∈js,X.N[p.1]?=some p.2/\X.env.scope.names.lookup p.2=some .cell/\scope.names.lookup p.2=some .free
 all:∀y,(y,NameKind.free)∈scope.names->X.env.scope.names.lookup y=some .cell
def dO (ts:z0t)(js:z0j)(σ:St):St:=ts.map (λ_=>none)++js.map λp=>(σ[p.1]?).join
def vo {X:Cx}{ag:z0e}{σ:St}{H:Hp}{s1 s4:Shared}{scope:Scope}{ts:z0t}{js:z0j}{cl:z0f}{fp:z0q}{C:Addr}{m:z0c}
  (I:Inv X ag σ H s1)(hf:∀b∈fp,ye X ag H b)(Iu:∀b∈fp,b < s1.heap.objs.size)(jz:scope.kind=.function)(jA:∀y∈scope.names,y.2≠.cell)(cp:LY X scope js)(og:LX X.env scope cl)
  (hC:s1.heap.objs.size < C)(ho:s4.os=s1.os)(hg:s4.gens=s1.gens)(old:∀b o,s1.heap.get? b=some o->s4.heap.get? b=some o)(hn:s4.heap.Ns C m)
  (hD:s4.heap.get? s1.heap.objs.size=some { cls:=.type "list",data:=.seq ([]:z0n).toArray 0 }) :
  Inv (tN X scope cl C s1 H (ts++js.map (·.2)) fp) [] (dO ts js σ) (upd H s1.heap.objs.size 132) s4:=by
 have xk:X.env.scope.kind=.function:=I.ok.kind;have has:∀y,((relabel scope X.env).names.lookup y=some .cell\/(relabel scope X.env).names.lookup y=some .free)->∃c,cl.lookup y=some c:=λy hy=>og.all y (by
  rcases hy with hy | hy
  .exact nW hy (.inl rfl) jA
  exact nW hy (.inr rfl) jA)
 have lt:∀y c,cl.lookup y=some c->c < s1.heap.objs.size:=λy c e=>by
  obtain⟨v,o,ho,_⟩:=I.cell y c (og.sub y c e);exact bC ho
 refine⟨⟨I.ok.mod,jz,I.ok.glob,I.ok.blt,lL hC,λy z c h1 h2=>I.ok.inj y z c (og.sub _ _ h1) (og.sub _ _ h2),has,λy c h _=>absurd (show false=true from h) cQ,I.ok.hd,I.ok.frames,.inl rfl,
   λb hb=>⟨bU (kq (Iu b hb) hC),λy c h=>(hf b hb).2.2.2.2.1 y c (og.sub _ _ h)⟩,I.bs,gr I.ok.LI I.sz,λb o e hb=>?_,λb hb=>?_,I.stack,I.Cu⟩,
  ho,?_,Un.laid old (aG _) I.fresh,⟨m,hn,λi y v e1 e2 _=>?_⟩,λy c h=>?_,?_,λy c h=>?_,λp hp=>absurd (show p∈([]:z0e) from hp) 135,I.cu.laid old (aG _) ?_,?_⟩
 .obtain⟨_,_,_,h4,_⟩:=hf b hb;rcases h4 with h4 | h4
  .exact I.ok.HQ b o e h4
  exact absurd (gu (bC (I.ok.bs b o e).1) h4) (lP _)
 .intro JG;obtain⟨_,h2,h3,_⟩:=hf b hb;rcases b8.mp (I.AB b JG) with z | z
  .exact h2 z
  exact h3 z
 .rw [hg];exact I.bare
 .have Lz:(ts++js.map (·.2))[i]?=some y:=e1;have zy:(ts.map (λ_=>(none:Option V))++js.map λp=>(σ[p.1]?).join)[i]?=some (some v):=e2;by_cases hi:i < ts.length
  .rw [nq (by simpa using hi)] at zy;simp [hi] at zy
  rw [lR ∅] at Lz;rw [lR (by simpa using Nat.le_of_not_lt hi)] at zy;rw [au] at zy;rw [a0] at Lz zy;cases hj:js[i - ts.length]? with
  | none=>rw [hj] at Lz;cases Lz
  | some p =>
   rw [hj] at Lz zy;simp only [rh,Option.some.injEq] at Lz zy;obtain⟨a1,a2,a3⟩:=cp.at_ p (cC hj);subst Lz;have es:σ[p.1]?=some (some v):=by
    cases q:σ[p.1]? with
    | none=>rw [q] at zy;cases zy
    | some z=>rw [q] at zy;exact congrArg some zy
   obtain⟨m0,Vk,lk⟩:=I.loc;obtain⟨u,ru,l⟩:=lk p.1 p.2 v a1 es (.inr (.inl a2));rcases l with l | ⟨_,c,ec,o,hc,hd⟩
   .have l1:X.env.scope.names.lookup p.2=some .local:=l.1;rw [a2] at l1;cases l1
   obtain⟨c',ec'⟩:=og.all p.2 (xA a3);have e3:=og.sub _ _ ec';rw [ec] at e3;cases e3;exact⟨u,ru,.inr ⟨.inl (xr xk a3 a2),c,ec',o,old _ _ hc,hd⟩⟩
 .obtain⟨v,o,h1,h2⟩:=I.cell y c (og.sub y c h);exact⟨v,o,old _ _ h1,h2⟩
 .show upd H s1.heap.objs.size 132 C=none;rw [aj (lN hC)];exact I.cu.fresh (lL hC)
 .show upd H s1.heap.objs.size 132 c=none;rw [aj (bU (lt y c h))];exact I.me y c (og.sub y c h)
 .exact⟨by show 0<=sizeLine;decide,[],0,.nil,hD⟩
 show (dO ts js σ).length=(ts++js.map (·.2)).length;simp [dO]
def FQ (wi:TI) (ts:z0t)(js:z0j)(g:TG)(tif:TT)(te:TE):TE:=λσ H Q=>wi σ H λJ H1=>∀D,H1 D=none->∃W:183,(∃m,W 0 m [] (dO ts js σ) (upd H1 D 132)) /\
 ∀i m ys σ' H,W i m ys σ' H->(J.stop i H/\Q (.ref D) H)\/(J.go i H/\∃m',m' < m/\∀x H',J.lS i H x H'->g x σ' H' λσ2 H2=>tif σ2 H2 λb H3 =>
  if b=true then te σ2 H3 182 else W (i+1) m' ys σ2 H3)
def aV {X:Cx}{elt iter tg:Expr}{ifs:z0r}{scope:Scope}{pos:Pos}{wi:TI}{g:TG}{tif:TT}{te:TE}(ts:z0t)(js:z0j)(hc:X.calm=true)(hi:PI X tg iter wi)
  (cp:LY X scope js)(jA:∀y∈scope.names,y.2≠.cell)(jz:scope.kind=.function)
  (BI:∀y∈scope.names,y.2=.local->scope.names.lookup y.1=some .local)
  (hg:∀cl C s1 H1 fp,PG (tN X scope cl C s1 H1 (ts++js.map (·.2)) fp) tg g)
  (YK:∀cl C s1 H1 fp,E7 (tN X scope cl C s1 H1 (ts++js.map (·.2)) fp) ifs tif)(he:∀cl C s1 H1 fp,PE (tN X scope cl C s1 H1 (ts++js.map (·.2)) fp) elt te)
  (hs:∀x,foldedSetIterable iter X.env x=pure x:=by intro _;rfl) :
  PE X (.ListComp elt [⟨tg,iter,ifs,0⟩] scope pos) (FQ wi ts js g tif te):=by
 intro ag s σ H Q I h;rw [eval_ListComp];obtain⟨cl,og⟩:=xT (env:=X.env) (scope:=scope) λy hy=>I.ok.has y (.inl (cp.all y hy));refine wpAny_comprehension_free (use:=none) rfl hs og.eq jz BI (dB (hi ag s σ H _ I h) λv s1 h1=>dB h1 λVa s2 h2=>?_);obtain⟨it,fp,tn,J,H2,e,I2,T,Jw,f2,h2⟩:=h2;subst e;obtain⟨W,⟨m0,w0⟩,turn⟩:=h2 s2.heap.objs.size I2.fresh;have Iu:∀b∈fp,b < s2.heap.objs.size:=λb hb=>by obtain⟨o,e,_⟩:=T.obj _ _ Jw b hb;exact bC e
 refine j5 (wpAny_newFunctionEnv jA (by intro y hy;simp at hy) (λh₁ BH xI=>?_) jz);dsimp only at BH xI ⊢;generalize OS:s2.heap.push { cls:=.type "list",dict:=none,data:=.seq ([]:z0n).toArray }=G2 at BH xI ⊢;have Lr:G2.objs.size=s2.heap.objs.size+1:=by rw [<-OS,oJ]
 have Qi:s2.heap.objs.size≠G2.objs.size:=by rw [Lr];exact bU (lQ _)
 have old:∀b o,s2.heap.get? b=some o->h₁.get? b=some o:=λb o e =>
  xI.extBut b o (by rw [Lr];exact bU (rp (bC e))) (b9 _ (OS ▸ b9 _ e))
 have mT:h₁.get? s2.heap.objs.size=some { cls:=.type "list",data:=.seq ([]:z0n).toArray 0 }:=xI.extBut _ _ Qi (b9 _ (OS ▸ dA _ rfl));generalize oh:tN X scope cl G2.objs.size s2 H2 (ts++js.map (·.2)) fp=X2;have I4:Inv X2 [] (dO ts js σ) (upd H2 s2.heap.objs.size 132) { s2 with heap:=h₁,toks:=s2.toks+([]:z0d).length }:=by
  rw [<-oh];exact vo I2 f2 Iu jz jA cp og (by rw [Lr];exact lQ _) rfl rfl old BH mT
 have x1:X2.prog=X.prog:=by rw [<-oh];rfl
 have x2:X2.w=X.w:=by rw [<-oh];rfl
 have x3:X2.K=X.K:=by rw [<-oh];rfl
 have x4:X2.calm=true:=by rw [<-oh];exact hc
 have x5:X2.A=X.A:=by rw [<-oh];rfl
 have x6:X2.env=compEnvC scope cl G2.objs.size X.env:=by rw [<-oh];rfl
 have x7:X2.xe=λ_ _=>False:=by rw [<-oh];rfl
 have YN:PG X2 tg g:=by rw [<-oh];exact hg _ _ _ _ _
 have OJ:E7 X2 ifs tif:=by rw [<-oh];exact YK _ _ _ _ _
 have C6:PE X2 elt te:=by rw [<-oh];exact he _ _ _ _ _
 have Q8:tn 0 h₁:=T.keep _ _ _ Jw λb _ o e=>old b o e;have rT:∀{H':Hp}{j6:z0e},(∀b∈fp,H' b=none)->(∀p∈j6,p.1∉fp)->∀b∈fp,ye X2 j6 H' b:=λ{H' j6} hn hp b hb=>by
  have o4:=I4.ok;subst oh;exact⟨hn b hb,(o4.Qn b hb).1,o4.EL b hb,.inl hb,(o4.Qn b hb).2,λp pE=>by
   have uz:p∈([]:z0e)++j6:=pE;rw [mw] at uz;intro z;exact hp p uz (by rw [z];exact hb)⟩
 have fin:∀{s':Shared}{σ':St}{H':Hp},Inv X2 [] σ' H' s'->Q (.ref s2.heap.objs.size) H' ->
   compPost 145 X.A X.xe none (EP X ag σ Q) (.ref s2.heap.objs.size) G2.objs.size (.ok .next) s':=λ{s' σ' H'} J' q=>by
  subst oh;obtain⟨m',C4,_⟩:=J'.loc;refine⟨m',C4,λh' K_=>?_⟩;have u:Un (EJ X.stack) fp H2 H' s2.heap s'.heap:=J'.base;have nC:∀b o,s2.heap.get? b=some o->b≠G2.objs.size:=λb o e=>by rw [Lr];exact bU (rp (bC e))
  have u':Un (EJ X.stack) fp H2 H' s2.heap h':=⟨λb o e n hb hx=>(K_.2 b (nC b o e)).trans (u.keep b o e n hb hx),λb o e n hb hx=>by
    obtain⟨sl,z⟩:=u.slot b o e n hb hx;exact⟨sl,(K_.2 b (nC b o e)).trans z⟩,u.free,λb o e hx=>by
    obtain⟨o',z⟩:=u.there b o e hx;exact⟨o',(K_.2 b (nC b o e)).trans z⟩,u.wL,u.uD,u.ur⟩
  have cu:nh X.prog X.w H' h':=λb ob e=>by
   refine(J'.cu b ob e).kM (λc w' mS q'=>(K_.2 c ?_).trans q') (λ_ q=>q) λ_ _ q=>q;intro z;have fr:H' G2.objs.size=none:=J'.free;rcases mS with z' | z'
   .rw [<-z'] at e;rw [z,fr] at e;cases e
   rw [z,fr] at z';cases z'
  have I5:Inv X ag σ H' { s' with heap:=h' }:=I2.M5 (s':={ s' with heap:=h' }) J'.os u' cu J'.bare λb hb=>by
   obtain⟨_,f1,_,f3,f4,f5⟩:=f2 b hb;exact⟨f3,f1,f4,f5⟩
  exact⟨.ref s2.heap.objs.size,H',I5,rfl,q⟩
 have loop:∀s₃:Shared,s₃={ s2 with heap:=h₁,toks:=s2.toks+([]:z0d).length } ->
   codeAny 145 X.A (.compLoop (.ListComp elt [⟨tg,iter,ifs,0⟩] scope pos) 0 (.ref it) (.ref s2.heap.objs.size) (compEnvC scope cl G2.objs.size X.env))
    (compPost 145 X.A X.xe none (EP X ag σ Q) (.ref s2.heap.objs.size) G2.objs.size) s₃:=by
  rintro s₃ rfl;subst oh;refine qd (λn s'=>∃i ys σ' H',Inv 217 [] σ' H' s'/\tn i s'.heap/\(∀b∈fp,H' b=none)/\W i n ys σ' H') ?_ m0
   ⟨0,[],_,_,I4,Q8,λb hb=>by rw [aj (bU (Iu b hb))];exact(f2 b hb).1,w0⟩
  rintro n s' ⟨i,ys,σ0,H',J',uZ,Ti,w'⟩;rcases turn i n ys σ0 H' w' with ⟨stop,q⟩ | ⟨go,m',hm,step⟩
  .refine dS (T.done 217 rfl rfl rfl hc i [] s' _ H' (λ_ _=>False) J' (rT Ti 135) uZ stop) (λr s4 ⟨hr,J4⟩=>?_) λ_ _ z=>z;subst hr;exact fin J4 q
  refine dS (T.item 217 rfl rfl rfl hc i [] s' _ H' (λ_ _=>False) J' (rT Ti 135) uZ go) (λr s4 ⟨u,hr,h4⟩=>?_) λ_ _ z=>z;subst hr;refine dS h4 (λ_ s5 bI=>?_) λ_ _ z=>z;obtain⟨xv,H5,J5,r5,y5,DJ,Th⟩:=bI;have J5':=J5.pinned (rT Th 135) (T.obj _ _ DJ);have back:∀{s7:Shared}{σ7:St}{H7:Hp},Inv 217 ([]++o7 fp s5.heap) σ7 H7 s7->Inv 217 [] σ7 H7 s7/\tn (i+1) s7.heap/\∀b∈fp,H7 b=none:=λ{s7 σ7 H7} J7=>by
   refine⟨J7.kI,T.keep _ _ _ DJ λb hb o e=>(J7.pin (b,o) (dM _ (dM _ (ic hb e)))).1,λb hb=>?_⟩;obtain⟨o,e,d⟩:=T.obj _ _ DJ b hb;exact(J7.pin (b,o) (dM _ (dM _ (ic hb e)))).2.1
  show wpAny _ _ (assign tg (tN X scope cl G2.objs.size s2 H2 (ts++js.map (·.2)) fp).env u) _ _ s5;refine dS (YN _ s5 _ H5 xv u _ J5' r5 (step xv H5 y5)) (λ_ s6 bI=>?_) λ_ _ z=>z;obtain⟨σ6,H6,J6,q6⟩:=bI;refine dS (OJ _ s6 _ H6 _ J6 q6) (λb s7 bI=>?_) λ_ _ z=>z;obtain⟨H7,J7,q7⟩:=bI;cases b with
  | false =>
   rw [ar cQ] at q7 ⊢;obtain⟨J8,WK,Zl⟩:=back J7;exact⟨m',hm,i+1,ys,σ6,H7,J8,WK,Zl,q7⟩
  | true =>
   rw [aw rfl] at q7 ⊢;refine dS (C6 _ s7 _ H7 _ J7 q7) (λyv s8 bI=>?_) λ_ _ z=>z;obtain⟨y,H8,J8,r8,Y9,Qa,w8⟩:=bI;refine dS (cv (X:=tN X scope cl G2.objs.size s2 H2 (ts++js.map (·.2)) fp) _ s8 _ H8 (.ref s2.heap.objs.size) [y] (.ref s2.heap.objs.size) [yv] (λv H'=>W (i+1) m' (ys++[y]) σ6 H') J8 rfl (.cons r8 .nil) ⟨s2.heap.objs.size,ys,y,rfl,rfl,Y9,Qa,w8⟩)
    (λ_ s9 ⟨_,H9,J9,_,w9⟩=>?_) λ_ _ z=>z
   obtain⟨J10,Nu,OZ⟩:=back J9;exact⟨m',hm,i+1,ys++[y],σ6,H9,J10,Nu,OZ,w9⟩
 exact codeAny_compStart_list (loop _ rfl) (T.self _ _ _ _ _ Q8 (loop _ rfl))
def Us (K:bp)(a:Addr):It :=
 ⟨λi H=>∃xs x,aI K H a xs/\xs[i]?=some x,λi H x H'=>∃t y,x=.ref t/\H t=none/\H'=upd H t (.tup [149,y])/\∀xs,aI K H a xs->xs[i]?=some y,λi H=>∃xs,aI K H a xs/\xs.length<=i⟩
def DF {P:Program}{w:World}{K:bp}{elts:z0r}{k:Nat}{wM:Pos}(a e it:Addr)(SU:e≠it) :
  Turn P w K (.Tuple elts k wM) (Us K a) [e,it] e (λi h=>(∃old,IsEnum h e it i old)/\h.IsListIter it a i) where
 mem:=85
 obj:=λi h st b hb=>by
  obtain⟨⟨old,he⟩,o,e1,c,d⟩:=st;rcases b8.mp hb with rfl | hb
  .exact⟨_,he,λv z=>by cases z⟩
  obtain rfl:b=it:=by simpa using hb
  exact⟨o,e1,λv z=>by rw [d] at z;cases z⟩
 keep:=λi h h' st k=>⟨⟨st.1.choose,k e 135 _ st.1.choose_spec⟩,st.2.at λo q=>k it 135 o q⟩
 item:=by
  intro X hP hw hK hc i ag s σ H E I hf st hg;subst hP hw hK;obtain⟨xs,x,hq,hx⟩:=hg;obtain⟨aT,rv,p,hz⟩:=I.list hq;obtain⟨u,hu,ru⟩:=rv.get hx;obtain⟨⟨old,he⟩,hit⟩:=st;refine wpAny_pyNext_enum_item he hit p.isList (x:=u) (by simpa using hu) SU λh1 ho OI hT hsz hk=>?_;refine⟨_,rfl,wpAny_letOwnedTupleGo_enum ho λh2 YT sb=>?_⟩;have ne:s.heap.objs.size≠e:=lN (bC he);have kk:∀b o,b≠e->b≠it->158->h2.get? b=some o:=λb o n1 n2 q=>(sb.2 b n1).trans (hk b o n1 n2 q);have T2:h2.get? s.heap.objs.size=some { cls:=.type "tuple",data:=.seq #[.int i s.toks,u] }:=(sb.2 _ ne).trans hT;have fe:=hf e 135;have fi:=hf it 135;have fT:H s.heap.objs.size=none:=I.cu.fresh (aG _);have tr:∀b v,H b=some v->b≠e/\b≠it:=λb v q=>⟨λz=>(by rw [z,fe.1] at q;cases q),λz=>(by rw [z,fi.1] at q;cases q)⟩;have nc:∀b,b∉[e,it]->b≠e/\b≠it:=λb z=>⟨λq=>z (by simp [q]),λq=>z (by simp [q])⟩;have lt:∀b o,158->b≠s.heap.objs.size:=λb o q=>bU (bC q);have I2:Inv X ag σ (upd H s.heap.objs.size (.tup [149,x])) { s with heap:=h2,toks:=s.toks+1 }:=by
   refine I.call (g':=s.gens) (t':=s.toks+1) (d':=s.drawn) (ch:=[e,it]) ⟨λb o q _ _ c=>kk b o (nc b c).1 (nc b c).2 q,λb o q _ _ c=>⟨o.slots,kk b o (nc b c).1 (nc b c).2 q⟩,
    λb o q n _=>by rw [aj (lt b o q)];exact n,λb o q c=>⟨o,kk b o (nc b c).1 (nc b c).2 q⟩,λb ys q=>by rw [aj (aC q fT)];exact q,λb o v q=>by rw [aj (aC q fT)];exact q,
    λb ps q=>⟨#[],by rw [aj (aC q fT),q];simp⟩⟩ (λb v q=>?_) I.bare (λb hb=>?_)
   .by_cases hb:b=s.heap.objs.size
    .subst hb;rw [ae] at q;cases q;exact⟨by show 2<=sizeLine;decide,[.int i s.toks,u],.cons ⟨_,rfl⟩ (.cons ru .nil),_,T2,rfl,_,rfl⟩
    rw [aj hb] at q;refine(I.cu b v q).kM (λc o mS z=>?_) (λc q'=>by rw [aj (aC q' fT)];exact q') λc ys q'=>by rw [aj (aC q' fT)];exact q'
    rcases mS with rfl | mS
    .exact kk c o (tr c _ q).1 (tr c _ q).2 z
    exact kk c o (tr c _ mS).1 (tr c _ mS).2 z
   rcases b8.mp hb with rfl | hb
   .exact⟨fe.2.2.2.1,fe.2.1,fe.2.2.2.2.1,fe.2.2.2.2.2⟩
   obtain rfl:b=it:=by simpa using hb
   exact⟨fi.2.2.2.1,fi.2.1,fi.2.2.2.2.1,fi.2.2.2.2.2⟩
  refine⟨180,_,I2,rfl,⟨_,x,rfl,fT,rfl,λys hy=>by rw [I.sS hy hq];exact hx⟩,⟨⟨_,YT⟩,OI.at λo q=>(sb.2 it SU.symm).trans q⟩,λb hb=>?_⟩;have JG:H b=none/\∃o,158:=by
   rcases b8.mp hb with rfl | hb
   .exact⟨fe.1,_,he⟩
   obtain rfl:b=it:=by simpa using hb
   obtain⟨o,q,_⟩:=hit;exact⟨fi.1,o,q⟩
  obtain⟨n,o,q⟩:=JG;rw [aj (lt b o q)];exact n
 done:=by
  intro X hP hw hK hc i ag s σ H E I hf st hg;subst hP hw hK;obtain⟨xs,hq,hx⟩:=hg;obtain⟨aT,rv,p,hz⟩:=I.list hq;obtain⟨⟨old,he⟩,hit⟩:=st;obtain⟨f0,f1,f2,f3,f4,f5⟩:=hf it 135;have hl:=rv.length;exact wpAny_pyNext_enum_end (I.ok.hd hc) he hit p.isList (by simp;omega) λh' eb=>⟨rfl,I.turned (t':=s.toks) (λb o hb e=>eb b o hb e) f0 f1 f3 f4 f5⟩
 self:=λ_ _ _ _ _ st h=>wpAny_pyIter_enum st.1.choose_spec h
def vO:bootBuiltins "enumerate"=some (.type "enumerate"):=by decide +kernel
def Se (K:bp)(ta:TA):TI:=λσ H R=>ta σ H λvs H1=>XEn vs (aI K H1) λa=>R (Us K a) H1
def nY {X:Cx}{elts:z0r}{k:Nat}{wM:Pos}{l:Expr}{ta:TA}{p pos:Pos}(hg:Gl X "enumerate")(hm:X.mg "enumerate"=none)(ha:PA X [l] ta)(hs:starEach [l] X.env=[(false,eval l X.env)]:=by rfl) :
  PI X (.Tuple elts k wM) (.Call (.Name "enumerate" p) [l] [] pos) (Se X.K ta):=by
 intro ag s σ H R I h;refine Call_ (jR I hg hm vO (wD (dB (ha pos ag s σ H _ I h) λus s1 bI=>?_) hs rfl));obtain⟨vs,H1,I1,r1,q1⟩:=bI;obtain⟨a,xs,e,hq,q⟩:=q1;subst e;obtain⟨u,rfl,rx⟩:=r1.one;cases rx;obtain⟨aT,rv,pl,hz⟩:=I1.list hq;refine call_enumerate_list pl.isList λh1 he hit hsz hk=>wpAny_pyIter_enum he ?_;refine⟨s1.heap.objs.size+1,[s1.heap.objs.size+1,s1.heap.objs.size],_,_,H1,rfl,I1.kept (t':=s1.toks) λb o e=>hk b o e,DF a _ _ (lN (lQ _)),⟨⟨_,he⟩,hit⟩,λb hb=>?_,q⟩;rcases b8.mp hb with rfl | hb
 .exact I1.xK (oE _) (I1.cu.fresh (oE _))
 obtain rfl:b=s1.heap.objs.size:=by simpa using hb
 exact I1.xK (aG _) (I1.cu.fresh (aG _))
def di (kvs bX:87):87:=kvs.foldl (λa p=>bQ a p.1 p.2) bX
theorem tF:∀{kvs:87}{vs:List (aN×Value)}{bX:87}{Je:List (aN×Value)},KV kvs vs->KV bX Je->KV (di kvs bX) (vs.foldl (λa p=>stored a p.1 p.2) Je)
 | _,_,_,_,.nil,h=>h
 | _,_,_,_,.cons (a:=p) (b:=q) r t,h=>by
  obtain⟨e,rv⟩:=r;show KV (di _ (bQ _ p.1 p.2)) (List.foldl _ (stored _ q.1 q.2) _);rw [<-e];exact tF t (h.put p.1 rv)
theorem tG:∀(kvs bX:87),(di kvs bX).length<=bX.length+kvs.length
 | [],bX=>by simp [di]
 | p::r,bX=>by
  have:=tG r (bQ bX p.1 p.2);have:=fX bX p.1 p.2;show (di r (bQ bX p.1 p.2)).length<=_;rw [dI];omega
section
variable {X:Cx}{ag:z0e}{σ:St}{H:Hp}{s:Shared}
theorem pairs_at (I:133):∀{ts:z0q}{kvs:87}{aT:z0n},Paired (λt kv=>aY X.K H t [kV kv.1,kv.2]) ts kvs->bF (ts.map V.ref) aT ->
  ∃vs:List (aN×Value),KV kvs vs/\Paired (λu kv=>m_ (aX X.prog X.w) s.heap u kv) aT vs
 | [],_,_,.nil,r=>by
  rw [ml] at r;cases r;exact⟨[],.nil,.nil⟩
 | t::ts,kv::kvs,_,.cons h p,r=>by
  rw [cD] at r;cases r with
  | cons r1 r2 =>
   obtain⟨vs,e1,e2⟩:=pairs_at I p r2;obtain⟨aT,rv,⟨o,h1,h2,n,h3⟩,_⟩:=I.tuple h;obtain⟨u1,u2,rfl,q1,q2⟩:=vals2 rv;exact⟨(kv.1,u2)::vs,.cons ⟨rfl,q2⟩ e1,.cons ⟨t,u1,n,o,r1,lZ q1,h1,h2,h3⟩ e2⟩
theorem Paired.at_ {α β:Type}{F:α->β->Prop}:∀{xs:List α}{ys:List β},Paired F xs ys->∀(m:Nat)(y:β),ys[m]?=some y->∃x,xs[m]?=some x/\F x y
 | _,_,.nil,m,y,e=>by cases m <;> cases e
 | _,_,.cons h t,0,y,e=>by cases e;exact⟨_,rfl,h⟩
 | _,_,.cons h t,m+1,y,e=>Paired.at_ t m y e
def eZ (hc:X.calm=true):iV X (.type "dict") (λxs H Q=>∃a ts kvs,xs=[.ref a]/\H a=some 163/\Paired (λt kv=>aY X.K H t [kV kv.1,kv.2]) ts kvs/\∀d,H d=none->Q (.ref d) (upd H d (.dK (di kvs [])))):=by
 intro ag s σ H xs us Q I r h;obtain⟨a,ts,kvs,rfl,e,p,q⟩:=h;obtain⟨u,rfl,rx⟩:=vals1 r;cases (show u=Value.ref a from rx);obtain⟨z,aT,n,rv,ho⟩:=(show cP X.prog X.w H s.heap a (.lst _) from I.cu a _ e);obtain⟨vs,r1,r2⟩:=pairs_at I p rv;have l1:=bc r2;have l2:=r1.length;have l3:=bc p;rw [au] at z;refine tU (aX X.prog X.w) (I.ok.hd hc) ho (by simpa using l1) (λm kv em=>?_) ∅ λh' t' hd kk=>?_
 .obtain⟨u,e1,e2⟩:=Paired.at_ r2 m kv em;exact⟨u,by simpa using e1,e2⟩
 have new:cP X.prog X.w (upd H s.heap.objs.size (.dK (di kvs []))) h' s.heap.objs.size (.dK (di kvs [])):=by
  refine tM ?_ ?_ (tF r1 .nil) hd
  .have:=tG kvs [];simp at this;omega
  have:=I.big;exact kc.mpr (lN this)
 exact⟨180,_,I.laid (t':=t') kk (aG _) new,rfl,q _ (I.cu.fresh (aG _))⟩
theorem o9 {α β:Type}{F:α->β->Prop}:∀{xs:List α}{ys:List β},xs.length=ys.length->(∀(j:Nat) x y,xs[j]?=some x->ys[j]?=some y->F x y)->Paired F xs ys
 | [],[],_,_=>.nil
 | [],_::_,e,_=>by cases e
 | _::_,[],e,_=>by cases e
 | x::xs,y::ys,e,h=>.cons (h 0 x y rfl rfl) (o9 (Nat.succ.inj e) λj a b e1 e2=>h (j+1) a b e1 e2)
def Ii {P:Program}{w:World}{k:aN}{u:Value}(h:(aX P w).is k u=true):RelV (kV k) u:=by
 rcases cV (show lY k u=true from h) with ⟨i,t,rfl,rfl⟩ | ⟨x,t,rfl,rfl⟩
 .exact⟨t,rfl⟩
 exact⟨t,rfl⟩
def mY (hc:X.calm=true):iV X (.type "list") (λxs H Q=>∃a kvs,xs=[.ref a]/\H a=162/\∀D,H D=none->Q (.ref D) (upd H D (.lst (kvs.map λp=>kV p.1)))):=by
 intro ag s σ H xs us Q I r h;obtain⟨a,kvs,rfl,e,q⟩:=h;obtain⟨u,rfl,rx⟩:=vals1 r;cases (show u=Value.ref a from rx);obtain⟨z,hs,vs,rel,dd⟩:=vF I.cu e;obtain⟨o,es,ep,d1,d2,d3,d4⟩:=dd;have l1:=rel.length;refine PySem.W.kdl_call (PySem.W.kdl_dict (knd:=aX X.prog X.w) (kvs:=vs) (ep:=ep) hs) (I.ok.hd hc) ⟨o,es,d1,d2,d3,d4⟩ ∅ λh' tk bX c kk hD mT=>?_;have keys:=rel.keys;have vals:bF (kvs.map λp=>kV p.1) bX.toList:=by
  refine o9 (by have h1:=mT.1;simp only [au,qW];omega) λj x y e1 e2=>?_;rw [rH] at e2;obtain⟨k,v,e3,e4⟩:=mT.2 j y e2;rw [a0] at e1;obtain⟨p,e5,rfl⟩:=b0.mp e1;have e6:(kvs.map 82)[j]?=some p.1:=by rw [a0,e5];rfl
  rw [keys,a0,e3] at e6;cases e6;exact Ii e4
 have new:cP X.prog X.w (upd H s.heap.objs.size (.lst (kvs.map λp=>kV p.1))) h' s.heap.objs.size (.lst (kvs.map λp=>kV p.1)):=⟨by rw [au];exact z,bX.toList,c,vals,by simpa using hD⟩;exact⟨180,_,I.laid (t':=tk) kk (aG _) new,rfl,q _ (I.cu.fresh (aG _))⟩
end
def yb (v:V):Prop:=jE v=true\/∃r,v=.ref r
def IL {x:V}(h:jE x=true):vA x x=true:=by
 cases x with
 | d0=>rfl
 | bl b=>exact rj b
 | int i=>exact rj i
 | str z=>exact rj z
 | _=>cases h
def tJ {A:Around}{s:Shared}{x:V}{u v:Value}(h:yb x)(ru:RelV x u)(rv:RelV x v):SeqAt.EqAt A s u v true:=by
 rcases h with h | ⟨r,rfl⟩
 .have q:=BZ (A:=A) (s:=s) ru rv h h;rw [IL h] at q;exact q
 cases (show u=Value.ref r from ru);cases (show v=Value.ref r from rv);exact .same _
section
variable {K:bp}{a D:Addr}{xs:List V}{ts:z0t}{js:z0j}{g:TG}{tif:TT}{te:TE}{R:Hp->Prop}{σ:St}{H:Hp}
def bT (Pv:Nat->List V->St->Hp->Prop)(h0:Pv 0 [] (dO ts js σ) 179)(hl:∀i ys σ H,i<=xs.length->Pv i ys σ H->aI K H a xs)
  (hs:∀i x ys σ H,xs[i]?=some x->Pv i ys σ H->g x σ H 220)
  (hd:∀ys σ H,Pv xs.length ys σ H->R H) :
  ∃W:183,(∃m,W 0 m [] (dO ts js σ) 179) /\
 ∀i m ys σ' H,W i m ys σ' H->((jG K a).stop i H/\R H)\/((jG K a).go i H/\∃m',m' < m/\∀x H',(jG K a).lS i H x H'->g x σ' H' λσ2 H2=>tif σ2 H2 λb H3 =>
  if b=true then te σ2 H3 182 else W (i+1) m' ys σ2 H3):=by
 refine⟨λi m ys σ H=>m=xs.length - i/\i<=xs.length/\Pv i ys σ H,⟨xs.length,85,gp _,h0⟩,?_⟩;rintro i m ys σ' H ⟨rfl,hi,p⟩;have q:=hl i ys σ' H hi p;by_cases jd:i < xs.length
 .refine .inr ⟨⟨xs,xs[i],q,by simp [jd]⟩,xs.length - (i+1),∅,λx H' y=>?_⟩;obtain⟨e,y⟩:=y;subst e;have z:=hs i x ys σ' _ (y xs q) p;have h1:(i+1<=xs.length)=True:=eq_true jd;simp only [h1,true_and];exact z
 have e:i=xs.length:=by omega
 subst e;exact .inl ⟨⟨xs,q,aG _⟩,hd ys σ' H p⟩
def qe {lo:Int}{n:Nat}(Pv:Nat->List V->St->Hp->Prop)(h0:Pv 0 [] (dO ts js σ) 179)
  (hs:∀i ys σ H,i < n->Pv i ys σ H->g (.int (lo+i)) σ H 220)
  (hd:∀ys σ H,Pv n ys σ H->R H) :
  ∃W:183,(∃m,W 0 m [] (dO ts js σ) 179) /\
 ∀i m ys σ' H,W i m ys σ' H->((LV lo n).stop i H/\R H)\/((LV lo n).go i H/\∃m',m' < m/\∀x H',(LV lo n).lS i H x H'->g x σ' H' λσ2 H2=>tif σ2 H2 λb H3 =>
  if b=true then te σ2 H3 182 else W (i+1) m' ys σ2 H3):=by
 refine⟨λi m ys σ H=>m=n - i/\i<=n/\Pv i ys σ H,⟨n,85,gp _,h0⟩,?_⟩;rintro i m ys σ' H ⟨rfl,hi,p⟩;by_cases jd:i < n
 .refine .inr ⟨jd,n - (i+1),∅,λx H' y=>?_⟩;obtain⟨rfl,rfl⟩:=y;have z:=hs i ys σ' _ jd p;have h1:(i+1<=n)=True:=eq_true jd;simp only [h1,true_and];exact z
 have e:i=n:=by omega
 subst e;exact .inl ⟨aG _,hd ys σ' H p⟩
end
def xU {X:Cx}:iV X (.builtin "isinstance") (λxs H Q=>∃a ys n b,xs=[.ref a,.ty n]/\aI X.K H a ys/\PySem.W.kitOne X.K (.type "list") (.type n)=some b/\Q (.bl b) H):=by
 intro ag s σ H xs us Q I r h;obtain⟨a,ys,n,b,rfl,hq,e,q⟩:=h;obtain⟨u,w',rfl,rx,rn⟩:=vals2 r;cases (show u=Value.ref a from rx);cases (show w'=Value.type n from rn);obtain⟨aT,_,pl,_⟩:=I.list hq;obtain⟨o,h1,h2,_⟩:=pl.isList;exact PySem.W.kia_one PySem.W.kitx_list I.yY ⟨o,h1,h2⟩ e (λz=>nomatch z) λtk=>⟨.bl b,H,I.tok _,rfl,q⟩
def Ie {K:bp}{t:Value}:PySem.W.kitOne K t t=some true:=by unfold PySem.W.kitOne;rw [aw (rj t)]
def Q4 (t:TS):TS:=λD σ H=>∃R:St->Hp->Prop,t { D with nx:=R } σ H/\∀σ' H',R σ' H'->D.nx σ' H'
def ie {X:Cx}{st:Stmt}{t:TS}(h:PS X st t):PS X st (Q4 t):=by
 intro ag s σ H D I ⟨R,q,m⟩;refine dB (h ag s σ H _ I q) λf s1 z=>?_;cases f with
 | next=>obtain⟨σ',H',I',r⟩:=z;exact⟨σ',H',I',m _ _ r⟩
 | ret v=>exact z
 | brk=>exact z
 | cont=>exact z
def aF (P:Program)(w:World)(K:bp)(mg:z0c)(base:Heap) (k:Nat)(x:Str) (ps:z0t)(sp:Sp):Prop :=
 ∃f fd,bR P w K mg base fK k f fd ps sp/\Binds K fd ps []/\PySem.W.keepIn K (.ref f)=true/\mg x=some (.ref f)
theorem aF.mono {P:Program}{w:World}{K:bp}{mg:z0c}{base:Heap}{j k:Nat}{x:Str}{ps:z0t}{sp:Sp}(c:aF P w K mg base j x ps sp)(h:j<=k):aF P w K mg base k x ps sp :=
 let ⟨f,fd,a,b,b1,b2⟩:=c;⟨f,fd,a.mono h,b,b1,b2⟩
def bu {X:Cx}{k:Nat}{x:Str}{ps:z0t}{sp:Sp}{e:Expr}{es:z0r}{t:TA}{p pos:Pos}(c:aF X.prog X.w X.K X.mg X.base k x ps sp)(hr:gC k X.A)(hg:Gl X x)(ha:PA X (e::es) t)
  (ED:(x == ("__debug__":Str))=false:=by decide)(he:218:=by rfl)(C2:(backTo pos (starEach es X.env)).any 82=false:=by rfl) :
  PE X (.Call (.Name x p) (e::es) [] pos) (L_ sp [] E0 t):=by
 obtain⟨f,fd,G,b,kp,m⟩:=c;exact Ku G hr hg m kp b .nil lU ha ED he C2
def fits {n:Nat}(h:n<=1000000):n<=sizeLine:=gr h nofun
def bB {n:Nat}(h:n<=1000000):n < sizeLine:=rq h nofun
def af {H:Hp}{p:Addr}(h:H p=none)(o:HO):aD H (upd H p o):=λb u q=>by rw [aj (aC q h)];exact q
def aD.tup {K:bp}{H H':Hp}{a:Addr}{xs:List V}(e:aD H H')(h:aY K H a xs):aY K H' a xs:=by
 rcases h with (h | ⟨o,h⟩) | h
 .exact .inl (.inl (e _ _ h))
 .exact .inl (.inr ⟨o,e _ _ h⟩)
 exact .inr h
def dX {X:Cx}(hc:X.calm=true):iV X (.builtin "all") (λxs H Q=>∃(a:Addr)(bs:List Bool),xs=[.ref a]/\aI X.K H a (bs.map V.bl)/\Q (.bl (bs.all id)) H):=by
 intro ag s σ H xs us Q I r h;obtain⟨a,bs,rfl,hq,q⟩:=h;obtain⟨u,rfl,rx⟩:=vals1 r;cases (show u=Value.ref a from rx);obtain⟨aT,rv,pl,hz⟩:=I.list hq;obtain⟨o,h1,h2,m,h3⟩:=id pl.isList;have la:a < s.heap.objs.size:=bC h1;have ln:=rv.length;rw [au] at ln;have isB:∀(i:Nat) v,aT.toArray[i]?=some v->v=.bool (bs.getD i true):=λi v e=>by
  have e':aT[i]?=some v:=by simpa using e
  obtain⟨x,e2,e3⟩:=Paired.at_ rv i v e';rw [a0] at e2;obtain⟨b,e4,rfl⟩:=b0.mp e2;rw [yl,e4];exact e3
 refine call_all_walk (oP pl.isList ?_);refine⟨s.heap.objs.size,_,_,_,_,_,λi=>bs.getD i true,rfl,Walks.list (A:=X.A.in1) (show X.A.in1.handled=none from I.ok.hd hc) s.heap.objs.size a (bU la) aT.toArray,⟨⟨_,dA _ rfl,rfl,rfl⟩,⟨o,b9 _ h1,h2,m,h3⟩⟩,?_,λh' tk kk=>?_⟩
 .intro i v s1 Q1 E1 hP hQ1;rw [isB i v hP];exact mC hQ1
 have e:((List.range aT.toArray.size).all λi=>bs.getD i true)=bs.all id:=by
  rw [cH,<-ln,jf,eG,eG];constructor
  .intro h b hb;obtain⟨i,hi,e⟩:=qX.mp hb;have:=h i (j4.mpr hi);rw [yl,df hi,e] at this;exact this
  intro h i hi;have Vo:=j4.mp hi;rw [yl,df Vo];exact h _ (vZ Vo)
 rw [e];exact⟨.bl _,H,I.kept (t':=tk) λb o' e'=>kk b o' (by simp;exact bU (bC e')) (b9 _ e'),rfl,q⟩
section
variable {prog:Program}{w:World}{A:Around}{E:z0b}{s:Shared}
def Bk {it l:Addr}{i:Nat}{items:z0l}{x:Value}{Q:z0b}(hit:s.heap.IsTupleIter it l i)(hl:s.heap.IsTuple l items)(hx:items[i]?=some x)
  (hQ:∀h',h'.IsTupleIter it l (i+1)->Heap.SameBut it s.heap h'->Q x { s with heap:=h' }):wpAny 150 A (Builtin.SmallTypes.nextOf (.ref it)) Q E s:=by
 obtain⟨o,ho,hc,hd⟩:=id hit;obtain⟨ol,Yy,_,nl,C7⟩:=hl;unfold Builtin.SmallTypes.nextOf;refine aA (pR (name:=Str.ofString "__next__") hit.typeIs wC (ka wC hit.typeIs F.entry_tuple_iterator_next ?_ (F.args_tuple_iterator_next_1 _)));show wpAny _ _ (field (.ref it) 0 >>= λv=>_) _ _ s;refine aA (je ho hd (x:=.ref l) (by rfl) ?_);show wpAny _ _ (if (Value.ref l == .none)=true then _ else _) _ _ s;rw [ar (by exact cQ)];show wpAny _ _ (field (.ref it) 1 >>= λv=>_) _ _ s;refine aA (je ho hd (x:=.int i 0) (by rfl) ?_);show wpAny _ _ (seqItems? (.ref l) >>= λv=>_) _ _ s;refine aA (qZ Yy C7 (by
  simp only [ji,hx];refine aA (wpAny_setField ho hd 135 (aH ⟨x,rfl,aH (hQ _ ⟨_,rF _ ho (Obj.isFreed_of_fields (v3 hd _)),(Obj.cls_mapFields ..).trans hc,?_⟩ (v9 ..))⟩));rw [v3 hd];simp [rawInt]))
def B0 {e it l:Addr}{i:Nat}{items:z0l}{x old:Value}{Q:z0k->Shared->Prop}(he:IsEnum s.heap e it i old)(hit:s.heap.IsTupleIter it l i)(hl:s.heap.IsTuple l items)(hx:items[i]?=some x)(jU:e≠it)
  (hQ:∀h',IsEnumOut h' e it ((i:Int)+1) x s.heap.objs.size->h'.IsTupleIter it l (i+1)->h'.get? s.heap.objs.size=some { cls:=.type "tuple",data:=.seq #[.int i s.toks,x] } ->
   (∀b o,b≠e->b≠it->158->h'.get? b=some o)->Q (some (180)) { s with heap:=h',toks:=s.toks+1 }) :
  wpAny 150 A (pyNext (.ref e)) Q E s:=by
 have hT:s.TypeIs (.ref e) "enumerate" := ⟨_,he,rfl⟩;unfold pyNext;refine aA (oF (pR (name:=Str.ofString "__next__") hT wq (ka wq hT F.entry_enumerate_next ?_ (F.args_enumerate_next_1 _))));obtain⟨hp,g,d,tk,os⟩:=s;show wpAny _ _ (field (.ref e) 2 >>= λv=>_) _ _ _;refine aA (je he rfl (x:=.ref it) (by rfl) (aA (Bk hit hl hx λh₁ YJ Sn=>?_)));replace Sn:Heap.SameBut it hp h₁:=Sn;have YS:IsEnum h₁ e it i old:=(Sn.2 e jU).trans he;show wpAny _ _ (field (.ref e) 3 >>= λv=>_) _ _ ⟨h₁,g,d,tk,os⟩;refine aA (je YS rfl (x:=rawInt i) (by rfl) ?_);show wpAny _ _ (field (.ref e) 4 >>= λv=>_) _ _ ⟨h₁,g,d,tk,os⟩;refine aA (je YS rfl (x:=.none) (by rfl) ?_);show wpAny _ _ (mkInt i >>= λv=>_) _ _ ⟨h₁,g,d,tk,os⟩;refine aA (wpAny_mkInt ?_);show wpAny _ _ (setField (.ref e) 3 (rawInt ((i:Int)+1)) >>= λv=>_) _ _ ⟨h₁,g,d,tk+1,os⟩;refine aA (rm YS 135 λh₂ f₂ hs₂=>?_);have he₂:IsEnum h₂ e it ((i:Int)+1) old:=f₂;have k₂:Heap.SameBut e h₁ h₂:=hs₂;show wpAny _ _ (setField (.ref e) 4 .none >>= λv=>_) _ _ ⟨h₂,g,d,tk+1,os⟩;refine aA (rm he₂ 135 λh₃ f₃ hs₃=>?_);have he₃:IsEnum h₃ e it ((i:Int)+1) old:=f₃;have k₃:Heap.SameBut e h₂ h₃:=hs₃;show wpAny _ _ (newTuple [.int i tk,x] >>= λv=>_) _ _ ⟨h₃,g,d,tk+1,os⟩;refine aA (wpAny_newTuple ?_);have Vr:IsEnum (h₃.push { cls:=.type "tuple",data:=.seq #[.int i tk,x] }) e it ((i:Int)+1) old:=b9 _ he₃;have hsz:h₃.objs.size=hp.objs.size:=by rw [k₃.1,k₂.1,Sn.1]
 have SS:e < hp.objs.size:=bC he;have ht₄:(h₃.push { cls:=.type "tuple",data:=.seq #[.int i tk,x] }).get? hp.objs.size=some { cls:=.type "tuple",data:=.seq #[.int i tk,x] }:=by rw [<-hsz];exact dA _ rfl
 have hk₄:∀b o,b≠e->b≠it->hp.get? b=some o->(h₃.push { cls:=.type "tuple",data:=.seq #[.int i tk,x] }).get? b=some o:=λb o n1 n2 hb=>b9 _ (k₃.extBut b o n1 (k₂.extBut b o n1 (Sn.extBut b o n2 hb)));have SN:(h₃.push { cls:=.type "tuple",data:=.seq #[.int i tk,x] }).IsTupleIter it l (i+1):=YJ.at λo q=>b9 _ (k₃.extBut it o (d8 jU) (k₂.extBut it o (d8 jU) q));generalize h₃.push { cls:=.type "tuple",data:=.seq #[.int i tk,x] }=h₄ at Vr ht₄ hk₄ SN ⊢;rw [hsz];show wpAny _ _ (Builtin.SmallTypes.ownedTupleIsFree (.ref e) >>= λv=>_) _ _ ⟨h₄,g,d,tk+1,os⟩;refine aA (by
  unfold Builtin.SmallTypes.ownedTupleIsFree;refine aA (je Vr rfl (x:=.none) (by rfl) (aH (by
   simp only [if_true];refine aA (kj (aA (je Vr rfl (x:=old) (by rfl) (aA (rm Vr 135 λh₅ f₅ hs₅=>?_)))));have he₅:IsEnum h₅ e it ((i:Int)+1) x:=f₅;have k₅:Heap.SameBut e h₄ h₅:=hs₅;show wpAny _ _ (Builtin.SmallTypes.ownedTupleHandOut (.ref e) (.ref hp.objs.size) >>= λv=>_) _ _ ⟨h₅,g,d,tk+1,os⟩;refine aA (by
    unfold Builtin.SmallTypes.ownedTupleHandOut;refine aA (rm he₅ 135 λh₆ f₆ hs₆=>?_);have he₆:IsEnumOut h₆ e it ((i:Int)+1) x hp.objs.size:=f₆;have k₆:Heap.SameBut e h₅ h₆:=hs₆;refine rm he₆ 135 λh₇ f₇ hs₇=>?_;have he₇:IsEnumOut h₇ e it ((i:Int)+1) x hp.objs.size:=f₇;have k₇:Heap.SameBut e h₆ h₇:=hs₇;have up:∀b o,b≠e->h₄.get? b=some o->h₇.get? b=some o:=λb o n q=>k₇.extBut b o n (k₆.extBut b o n (k₅.extBut b o n q));exact aA (wpAny_letGo (aH ⟨_,rfl,aH (hQ h₇ he₇ (SN.at λo q=>up it o (d8 jU) q) (up _ _ (lN SS) ht₄) λb o n1 n2 q=>up b o n1 (hk₄ b o n1 n2 q))⟩)))))))
def sP {it l:Addr}{i:Nat}{items:z0l}{Q:z0b}(hh:A.handled=none)(hit:s.heap.IsTupleIter it l i)(hl:s.heap.IsTuple l items)(hx:items[i]?=none)
  (hE:∀h' e,Heap.ExtBut it s.heap h'->(∃o,h'.get? e=some o/\o.cls=.type "StopIteration")->E (.ref e) { s with heap:=h' }):wpAny 150 A (Builtin.SmallTypes.nextOf (.ref it)) Q E s:=by
 obtain⟨o,ho,hc,hd⟩:=id hit;obtain⟨ol,Yy,_,nl,C7⟩:=hl;unfold Builtin.SmallTypes.nextOf;refine aA (pR (name:=Str.ofString "__next__") hit.typeIs wC (ka wC hit.typeIs F.entry_tuple_iterator_next ?_ (F.args_tuple_iterator_next_1 _)));show wpAny _ _ (field (.ref it) 0 >>= λv=>_) _ _ s;refine aA (je ho hd (x:=.ref l) (by rfl) ?_);show wpAny _ _ (if (Value.ref l == .none)=true then _ else _) _ _ s;rw [ar (by exact cQ)];show wpAny _ _ (field (.ref it) 1 >>= λv=>_) _ _ s;refine aA (je ho hd (x:=.int i 0) (by rfl) ?_);show wpAny _ _ (seqItems? (.ref l) >>= λv=>_) _ _ s;refine aA (qZ Yy C7 ?_);simp only [ji,hx];refine aA (kj (aA (wpAny_setField ho hd 135 (aA ?_))));simp only [newExc,newTuple];refine aA (j5 ?_ (by size_fits));refine aA (m:=firstArgMember _ _) (wpAny_of_eq (a:=Value.none) (by first | rfl | (simp only [firstArgMember];rfl)) ?_)
 refine j5 ?_ (by size_fits);simp only [raiseNew];refine aA (wpAny_handled ?_)
 first | rw [show A.in1.handled=none from hh] | rw [hh]
 refine aA (aH (wpAny_throw (hE _ _ (((v9 ..).extBut.push _).push _) ⟨_,dA _ rfl,rfl⟩)))
def EM {e it l:Addr}{i:Nat}{items:z0l}{old:Value}{Q:z0k->Shared->Prop}(hh:A.handled=none)(he:IsEnum s.heap e it i old)(hit:s.heap.IsTupleIter it l i)(hl:s.heap.IsTuple l items)(hx:items[i]?=none)
  (hQ:∀h',Heap.ExtBut it s.heap h'->Q none { s with heap:=h' }):wpAny 150 A (pyNext (.ref e)) Q E s:=by
 have hT:s.TypeIs (.ref e) "enumerate" := ⟨_,he,rfl⟩;unfold pyNext;refine aA (oF (pR (name:=Str.ofString "__next__") hT wq (ka wq hT F.entry_enumerate_next ?_ (F.args_enumerate_next_1 _))));show wpAny _ _ (field (.ref e) 2 >>= λv=>_) _ _ _;refine aA (je he rfl (x:=.ref it) (by rfl) (aA (sP hh hit hl hx λh' x C6 Yh=>?_)));obtain⟨o,ho,hc⟩:=Yh;exact aA (wpAny_isInstance (T := "StopIteration") (b:=true) ⟨o,ho,hc⟩ isSubtype_stop (aH (hQ _ C6)))
end
open PySem.AutoSeq1 (wpAny_loadPart')
def yW (l:Addr)(items:z0l) (n:Nat)(Dk:z0m)(sl:z0a) :
  Meets (Builtin.«enumerate.__new__» ⟨[.type "enumerate",.ref l],[]⟩) (λ_ R s=>s.heap.get? l=some { cls:=.type "tuple",dict:=Dk,data:=.seq items n,slots:=sl } /\
   R (.ok (.ret (.ref (s.heap.push { cls:=.type "tuple_iterator",data:=.fields #[.ref l,.int 0 0] }).objs.size)))
    { s with heap:=(s.heap.push { cls:=.type "tuple_iterator",data:=.fields #[.ref l,.int 0 0] }).push { cls:=.type "enumerate",data:=.fields #[.none,.bool false,180,rawInt 0,.none,.none] } }) :=
 .of_wp λprog w A R s h=>by
  obtain⟨hp,g,d,tk,os⟩:=s;obtain⟨hl,h⟩:=h;have aaC:=sub_enumerate;have hT:Heap.IsTuple (Shared.heap ⟨hp,g,d,tk,os⟩) l items:=⟨_,hl,rfl,n,rfl⟩
  wp_walk using wz hl
  refine wpAny_stack_any λst=>aH ?_;split
  .rename_i c _ _ _ _ _
   cases (c == Value.type "enumerate")
   .wp_walk using wz hl,v8 hT;exact⟨_,rfl,h⟩
   wp_walk using wz hl,v8 hT;exact⟨_,rfl,h⟩
  wp_walk using wz hl,v8 hT;exact⟨_,rfl,h⟩
section
variable {prog:Program}{w:World}{A:Around}{E:z0b}{s:Shared}
def B7 {l:Addr}{items:z0l}{Q:z0b}(hL:s.heap.IsTuple l items)
  (h:∀h',IsEnum h' (s.heap.objs.size+1) s.heap.objs.size 0 .none->h'.IsTupleIter s.heap.objs.size l 0->(∀b o,158->h'.get? b=some o)->Q (.ref (s.heap.objs.size+1)) { s with heap:=h' }) :
  wpAny 150 A (call (.type "enumerate") [.ref l]) Q E s:=by
 obtain⟨⟨c,Dk,dt,sl⟩,hl,hc,n,hd⟩:=hL;replace hc:c=.type "tuple" := hc;replace hd:dt=.seq items n:=hd;subst hc hd;refine callType_new F.called_enumerate nofun (F.typeCall_enumerate_1 _) (F.newCall_enumerate_1 _) (λobj=>F.args_object_init_2 obj _) F.entry_enumerate_new (yW l items n Dk sl) ⟨hl,?_⟩;have hz:(s.heap.push { cls:=.type "tuple_iterator",data:=.fields #[.ref l,.int 0 0] }).objs.size=s.heap.objs.size+1:=oJ ..;show _/\_;rw [hz];have he:IsEnum ((s.heap.push { cls:=.type "tuple_iterator",data:=.fields #[.ref l,.int 0 0] }).push { cls:=.type "enumerate",data:=.fields #[.none,.bool false,180,rawInt 0,.none,.none] }) (s.heap.objs.size+1) s.heap.objs.size 0 .none:=by
  have:=dA (s.heap.push { cls:=.type "tuple_iterator",data:=.fields #[.ref l,.int 0 0] }) (o:={ cls:=.type "enumerate",data:=.fields #[.none,.bool false,180,rawInt 0,.none,.none] }) rfl;rw [hz] at this;exact this
 exact⟨⟨_,he,rfl⟩,h _ he ⟨_,b9 _ (dA _ rfl),rfl,rfl⟩ λb o x=>b9 _ (b9 _ x)⟩
end
def ua (K:bp)(a:Addr):It :=
 ⟨λi H=>∃xs x,aY K H a xs/\xs[i]?=some x,λi H x H'=>∃t y,x=.ref t/\H t=none/\H'=upd H t (.tup [149,y])/\∀xs,aY K H a xs->xs[i]?=some y,λi H=>∃xs,aY K H a xs/\xs.length<=i⟩
def Ay {P:Program}{w:World}{K:bp}{elts:z0r}{k:Nat}{wM:Pos}(a e it:Addr)(SU:e≠it) :
  Turn P w K (.Tuple elts k wM) (ua K a) [e,it] e (λi h=>(∃old,IsEnum h e it i old)/\h.IsTupleIter it a i) where
 mem:=85
 obj:=λi h st b hb=>by
  obtain⟨⟨old,he⟩,o,e1,c,d⟩:=st;rcases b8.mp hb with rfl | hb
  .exact⟨_,he,λv z=>by cases z⟩
  obtain rfl:b=it:=by simpa using hb
  exact⟨o,e1,λv z=>by rw [d] at z;cases z⟩
 keep:=λi h h' st k=>⟨⟨st.1.choose,k e 135 _ st.1.choose_spec⟩,st.2.at λo q=>k it 135 o q⟩
 item:=by
  intro X hP hw hK hc i ag s σ H E I hf st hg;subst hP hw hK;obtain⟨xs,x,hq,hx⟩:=hg;obtain⟨aT,rv,p,hz⟩:=I.tuple hq;obtain⟨u,hu,ru⟩:=rv.get hx;obtain⟨⟨old,he⟩,hit⟩:=st;refine B0 he hit (show s.heap.IsTuple a aT.toArray from p) (x:=u) (by simpa using hu) SU λh1 ho OI hT hk=>?_;refine⟨_,rfl,wpAny_letOwnedTupleGo_enum ho λh2 YT sb=>?_⟩;have ne:s.heap.objs.size≠e:=lN (bC he);have kk:∀b o,b≠e->b≠it->158->h2.get? b=some o:=λb o n1 n2 q=>(sb.2 b n1).trans (hk b o n1 n2 q);have T2:h2.get? s.heap.objs.size=some { cls:=.type "tuple",data:=.seq #[.int i s.toks,u] }:=(sb.2 _ ne).trans hT;have fe:=hf e 135;have fi:=hf it 135;have fT:H s.heap.objs.size=none:=I.cu.fresh (aG _);have tr:∀b v,H b=some v->b≠e/\b≠it:=λb v q=>⟨λz=>(by rw [z,fe.1] at q;cases q),λz=>(by rw [z,fi.1] at q;cases q)⟩;have nc:∀b,b∉[e,it]->b≠e/\b≠it:=λb z=>⟨λq=>z (by simp [q]),λq=>z (by simp [q])⟩;have lt:∀b o,158->b≠s.heap.objs.size:=λb o q=>bU (bC q);have I2:Inv X ag σ (upd H s.heap.objs.size (.tup [149,x])) { s with heap:=h2,toks:=s.toks+1 }:=by
   refine I.call (g':=s.gens) (t':=s.toks+1) (d':=s.drawn) (ch:=[e,it]) ⟨λb o q _ _ c=>kk b o (nc b c).1 (nc b c).2 q,λb o q _ _ c=>⟨o.slots,kk b o (nc b c).1 (nc b c).2 q⟩,
    λb o q n _=>by rw [aj (lt b o q)];exact n,λb o q c=>⟨o,kk b o (nc b c).1 (nc b c).2 q⟩,λb ys q=>by rw [aj (aC q fT)];exact q,λb o v q=>by rw [aj (aC q fT)];exact q,
    λb ps q=>⟨#[],by rw [aj (aC q fT),q];simp⟩⟩ (λb v q=>?_) I.bare (λb hb=>?_)
   .by_cases hb:b=s.heap.objs.size
    .subst hb;rw [ae] at q;cases q;exact⟨by show 2<=sizeLine;decide,[.int i s.toks,u],.cons ⟨_,rfl⟩ (.cons ru .nil),_,T2,rfl,_,rfl⟩
    rw [aj hb] at q;refine(I.cu b v q).kM (λc o mS z=>?_) (λc q'=>by rw [aj (aC q' fT)];exact q') λc ys q'=>by rw [aj (aC q' fT)];exact q'
    rcases mS with rfl | mS
    .exact kk c o (tr c _ q).1 (tr c _ q).2 z
    exact kk c o (tr c _ mS).1 (tr c _ mS).2 z
   rcases b8.mp hb with rfl | hb
   .exact⟨fe.2.2.2.1,fe.2.1,fe.2.2.2.2.1,fe.2.2.2.2.2⟩
   obtain rfl:b=it:=by simpa using hb
   exact⟨fi.2.2.2.1,fi.2.1,fi.2.2.2.2.1,fi.2.2.2.2.2⟩
  refine⟨180,_,I2,rfl,⟨_,x,rfl,fT,rfl,λys hy=>by rw [I.jm hy hq];exact hx⟩,⟨⟨_,YT⟩,OI.at λo q=>(sb.2 it SU.symm).trans q⟩,λb hb=>?_⟩;have JG:H b=none/\∃o,158:=by
   rcases b8.mp hb with rfl | hb
   .exact⟨fe.1,_,he⟩
   obtain rfl:b=it:=by simpa using hb
   obtain⟨o,q,_⟩:=hit;exact⟨fi.1,o,q⟩
  obtain⟨n,o,q⟩:=JG;rw [aj (lt b o q)];exact n
 done:=by
  intro X hP hw hK hc i ag s σ H E I hf st hg;subst hP hw hK;obtain⟨xs,hq,hx⟩:=hg;obtain⟨aT,rv,p,hz⟩:=I.tuple hq;obtain⟨⟨old,he⟩,hit⟩:=st;obtain⟨f0,f1,f2,f3,f4,f5⟩:=hf it 135;have hl:=rv.length;exact EM (I.ok.hd hc) he hit (show s.heap.IsTuple a aT.toArray from p) (by simp;omega) λh' eb=>⟨rfl,I.turned (t':=s.toks) (λb o hb e=>eb b o hb e) f0 f1 f3 f4 f5⟩
 self:=λ_ _ _ _ _ st h=>wpAny_pyIter_enum st.1.choose_spec h
def Oz (K:bp)(ta:TA):TI:=λσ H R=>ta σ H λvs H1=>XEn vs (aY K H1) λa=>R (ua K a) H1
def nX {X:Cx}{elts:z0r}{k:Nat}{wM:Pos}{l:Expr}{ta:TA}{p pos:Pos}(hg:Gl X "enumerate")(hm:X.mg "enumerate"=none)(ha:PA X [l] ta)(hs:starEach [l] X.env=[(false,eval l X.env)]:=by rfl) :
  PI X (.Tuple elts k wM) (.Call (.Name "enumerate" p) [l] [] pos) (Oz X.K ta):=by
 intro ag s σ H R I h;refine Call_ (jR I hg hm vO (wD (dB (ha pos ag s σ H _ I h) λus s1 bI=>?_) hs rfl));obtain⟨vs,H1,I1,r1,q1⟩:=bI;obtain⟨a,xs,e,hq,q⟩:=q1;subst e;obtain⟨u,rfl,rx⟩:=r1.one;cases rx;obtain⟨aT,rv,pl,hz⟩:=I1.tuple hq;refine B7 (show s1.heap.IsTuple a aT.toArray from pl) λh1 he hit hk=>wpAny_pyIter_enum he ?_;refine⟨s1.heap.objs.size+1,[s1.heap.objs.size+1,s1.heap.objs.size],_,_,H1,rfl,I1.kept (t':=s1.toks) λb o e=>hk b o e,Ay a _ _ (lN (lQ _)),⟨⟨_,he⟩,hit⟩,λb hb=>?_,q⟩;rcases b8.mp hb with rfl | hb
 .exact I1.xK (oE _) (I1.cu.fresh (oE _))
 obtain rfl:b=s1.heap.objs.size:=by simpa using hb
 exact I1.xK (aG _) (I1.cu.fresh (aG _))
open PySem PySem.Spec PyProof.Rows PySem.W
def j7 (c':Addr)(qual:Str):HO:=.ext λh=>h.CodeRec (.ref c') qual
def px (f:Addr)(o:Obj):HO:=.ext λh=>h.get? f=some o
def zK {P:Program}{w:World}{H:Hp}{h:Heap}{c':Addr}{qual:Str}(hr:h.CodeRec (.ref c') qual):cP P w H h c' (j7 c' qual):=by
 obtain⟨c2,oc,vs,t,e,Ab,hd,hv⟩:=id hr;cases e;exact⟨hr,⟨oc,Ab⟩,λh1 h2 ⟨c3,oc3,vs3,t3,e3,YA,iW,Qb⟩ k=>by cases e3;exact⟨_,oc3,vs3,t3,rfl,k _ YA,iW,Qb⟩⟩
def qI {P:Program}{w:World}{H:Hp}{h:Heap}{f:Addr}{o:Obj}(e:h.get? f=some o):cP P w H h f (px f o):=⟨e,⟨o,e⟩,λ_ _ q k=>k _ q⟩
def Tab (T:Addr)(pos:Pos)(qual:Str)(H:Hp):Prop :=
 ∃ps,H T=some (.ui ps)/\TriplesOk ps.toList/\(codeAmong pos ps.toList=none\/∃c',codeAmong pos ps.toList=some (.ref c')/\H c'=some (j7 c' qual))
def gB (T:Addr)(H H':Hp):Prop:=∀b o,b≠T->H b=some o->H' b=some o
def uf (mg:z0c)(base:Heap):Prop :=
 ∃bm o,mg "__builtins__"=some (.ref bm)/\bm≠builtinsNs/\bm≠mainGlobals/\base.get? bm=some o/\o.cls=.type "module" /\ o.dict=some builtinsNs/\o.data=.plain
theorem jK {a b:Int}{ta tb:Tok}{c:Value}:∀l:z0n,TriplesOk l->TriplesOk (l++[.int a ta,.int b tb,c])
 | [],_=>trivial
 | [x],h=>by cases x <;> exact h.elim
 | [x,y],h=>by cases x <;> cases y <;> exact h.elim
 | x::y::z::r,h=>by
  cases x with
  | int i ti =>
   cases y with
   | int j tj=>exact jK r h
   | _=>exact h.elim
  | _=>exact h.elim
section
variable {X:Cx}{params:Arguments}{body:Expr}{scope:Scope}{pos:Pos}{c T:Addr}
abbrev mN (X:Cx)(params:Arguments)(body:Expr)(scope:Scope)(c':Addr)(gL:Value):Obj:=kla_obj "<lambda>" (X.env.qual ++ "<lambda>") params body scope [] ((X.mg "__name__").getD .none) c' gL
def WA (X:Cx)(params:Arguments)(body:Expr)(scope:Scope)(pos:Pos)(T:Addr):TE:=λσ H Q=>Tab T pos (X.env.qual ++ "<lambda>") H /\
 ∀f c' gL H',gB T H H'->Tab T pos (X.env.qual ++ "<lambda>") H'->H f=none->H' f=some (px f (mN X params body scope c' gL))->H' c'=some (j7 c' (X.env.qual ++ "<lambda>"))->Q (.ref f) H'
def G7 (sY:X.env.code=.ref c)(hC:codeHdIn X.K c T=true)(hB:uf X.mg X.base)(n_:∀y∈scope.names,y.2≠.free)(Iw:defaultsOf params X.env=([],[]):=by rfl):PE X (.Lambda params body scope pos) (WA X params body scope pos T):=by
 intro ag s σ H Q I h;obtain⟨⟨ps,hT,ht,Iy⟩,q⟩:=h;refine kla_eval Iw ?_;have OR:s.heap.get? T=some (tabObj ps):=(show cP X.prog X.w H s.heap T (.ui ps) from I.cu T _ hT);have hg:=I.mod.glob.keeps I.bk;have C:=codeHd_of_K I.yY hC;obtain⟨bm,ob,b1,b2,b3,b4,b5,b6,b7⟩:=hB;have b4':=I.bk _ _ b4;have Xy:bm≠T:=λz=>by
  have:=(I.bs _ _ b4).2;rw [z,hT] at this;cases this
 have Xu:mainGlobals≠T:=λz=>by
  obtain⟨o,es,ep,e,d,_⟩:=hg;rw [z,OR] at e;cases e;cases d
 have Tg:s.heap.BuiltinsAt X.mg T:=⟨bm,ob,b1,b2,b3,Xy,b4',b5,b6,b7⟩;have Jv:∀b v,H b=some v->b < s.heap.objs.size:=λb v e=>I.cu.lt e;rcases Iy with SI | ⟨c',hf,mS⟩
 .refine kla_makeFunction (closureFor_none n_) I.ok.glob hg sY C OR ht SI Xu Tg λc' gL h' tk hx Fs jd Ik Sk=>?_;have hcr:∃oc,h'.get? c'=some oc:=by
   obtain⟨c2,oc,vs,t,e,Ab,_⟩:=Ik;cases e;exact⟨oc,Ab⟩
  have sX:h'.objs.size > s.heap.objs.size:=rq Fs jd;have keep:∀b o,b≠T->158->(h'.push (mN X params body scope c' gL)).get? b=some o:=λb o n e=>b9 _ (hx b o n e)
  let H':Hp:=upd (upd (upd H T (.ui (ps++#[rawInt pos.line,rawInt pos.col,.ref c']))) c' (j7 c' (X.env.qual ++ "<lambda>"))) h'.objs.size (px h'.objs.size (mN X params body scope c' gL))
  have Bp:∀b v,H b=some v->b≠c'/\b≠h'.objs.size:=λb v e=>⟨bU (gu (Jv b v e) Fs),bU (kq (Jv b v e) sX)⟩;have Xx:c'≠h'.objs.size:=bU jd;have RM:=Bp T _ hT;have eT:H' T=some (.ui (ps++#[rawInt pos.line,rawInt pos.col,.ref c'])):=by
   show upd (upd (upd H T _) c' _) h'.objs.size _ T=_;rw [aj RM.2,aj RM.1,ae]
  have ec:H' c'=some (j7 c' (X.env.qual ++ "<lambda>")):=by
   show upd (upd (upd H T _) c' _) h'.objs.size _ c'=_;rw [aj Xx,ae]
  have ef:H' h'.objs.size=some (px h'.objs.size (mN X params body scope c' gL)):=ae;have eo:∀b,b≠T->b≠c'->b≠h'.objs.size->H' b=H b:=λb n1 n2 n3=>by
   show upd (upd (upd H T _) c' _) h'.objs.size _ b=_;rw [aj n3,aj n2,aj n1]
  have sT:gB T H H':=λb o n e=>by rw [eo b n (Bp b o e).1 (Bp b o e).2];exact e
  have I2:Inv X ag σ H' { s with heap:=h'.push (mN X params body scope c' gL),toks:=tk }:=by
   refine I.call (g':=s.gens) (t':=tk) (d':=s.drawn) (ch:=[]) ⟨λb o e n _ _=>keep b o (λz=>by rw [z,hT] at n;cases n) e,λb o e n _ _=>⟨o.slots,keep b o (λz=>by rw [z,hT] at n;cases n) e⟩,λb o e n _=>?_,λb o e _=>?_,λb xs e=>?_,λb o u e=>?_,λb Xa e=>?_⟩ (λb v e=>?_) I.bare (λb hb=>nomatch hb)
   .have lb:=bC e;rw [eo b (λz=>by rw [z,hT] at n;cases n) (bU (gu lb Fs)) (bU (kq lb sX))];exact n
   .by_cases z:b=T
    .exact⟨_,by rw [z];exact b9 _ Sk⟩
    exact⟨o,keep b o z e⟩
   .exact sT b _ (λz=>by rw [z,hT] at e;cases e) e
   .exact sT b _ (λz=>by rw [z,hT] at e;cases e) e
   .by_cases z:b=T
    .subst z;rw [hT] at e;cases e;exact⟨_,eT⟩
    exact⟨#[],by rw [Array.append_empty];exact sT b _ z e⟩
   by_cases z1:b=h'.objs.size
   .subst z1;rw [ef] at e;cases e;exact qI (dA _ rfl)
   by_cases z2:b=c'
   .subst z2;rw [ec] at e;cases e;refine zK ?_;obtain⟨c2,oc,vs,t,e',Ab,hd,hv⟩:=Ik;cases e';exact⟨_,oc,vs,t,rfl,b9 _ Ab,hd,hv⟩
   by_cases z3:b=T
   .subst z3;rw [eT] at e;cases e;exact b9 _ Sk
   rw [eo b z3 z2 z1] at e;refine(I.cu b v e).kM (λd o EE e'=>?_) (λd e'=>sT d _ (λz=>by rw [z,hT] at e';cases e') e') λd ys e'=>sT d _ (λz=>by rw [z,hT] at e';cases e') e';rcases EE with rfl | EE
   .exact keep d o z3 e'
   exact keep d o (λz=>by rw [z,hT] at EE;cases EE) e'
  have fresh:H h'.objs.size=none:=I.cu.fresh (lL sX);exact⟨.ref h'.objs.size,H',I2,rfl,q _ c' gL H' sT ⟨_,eT,by rw [wo];exact jK _ ht,.inr ⟨c',by rw [wo];exact codeAmong_snoc _ ht SI,ec⟩⟩ fresh ef ec⟩
 refine kla_makeFunctionHit (closureFor_none n_) I.ok.glob hg sY C OR ht hf Tg λgL h' tk hk hsz=>?_;have keep:∀b o,158->(h'.push (mN X params body scope c' gL)).get? b=some o:=λb o e=>b9 _ (hk b o e);have fresh:H h'.objs.size=none:=I.cu.fresh hsz;refine⟨.ref h'.objs.size,_,I.laid (a:=h'.objs.size) (o:=px h'.objs.size (mN X params body scope c' gL)) (t':=tk) keep hsz (qI (dA _ rfl)),rfl,?_⟩;refine q _ c' gL _ (λb o _ e=>by rw [aj (aC e fresh)];exact e) ⟨ps,by rw [aj (aC hT fresh)];exact hT,ht,.inr ⟨c',hf,by rw [aj (aC mS fresh)];exact mS⟩⟩ fresh ae (by rw [aj (aC mS fresh)];exact mS)
end
section
variable {P:Program}{w:World}{K:Frag}{mg:z0c}{base:Heap}{f c':Addr}{q:Str}{params:Arguments}{body:Expr}{scope:Scope}{pm gL:Value}{N ps:z0t}{k:Nat}{te:TE}
def K3 (S:aK N ps scope)(sZ:∀us:z0n,us.length=ps.length->bindArgs (kla_fn "<lambda>" q params body scope [] pm (.ref c') gL) ⟨us,[]⟩=pure (ps.zip us))
  (jB:∀(A:Around)(outer:List Env)(s:Shared)(H:Hp),PE (pJ fK P w K mg base N q scope f (.ref c') A outer s H λ_ _ _=>False) body te)
  (A:Around)(outer:List Env)(s:Shared)(H:Hp)(us:z0n)(vs:List V)(Q:VK)(hr:gC (k+1) A)(e0:zZ P w K mg base A outer s H)(hf:H f=some (px f (kla_obj "<lambda>" q params body scope [] pm c' gL)))
  (hc:H c'=some (j7 c' q))(rv:bF vs us)(hl:vs.length=ps.length)(h:te (start N vs) H Q):codeAny (model P w) A (.call (.ref f) ⟨us,[]⟩) (CR fK outer P w H s Q λ_ _ _=>False) s:=by
 obtain⟨ef,_⟩:=e0.cu f _ hf;obtain⟨ec,_⟩:=e0.cu c' _ hc;have lu:us.length=ps.length:=by rw [<-rv.length];exact hl
 have lim:s.heap.NoLimit:=e0.mod.nolimit.keeps λb o e=>(e0.bs b o e).1;have jz:∀y∈ps.zip us,scope.names.lookup y.1=some .local\/(scope.names.lookup y.1=some .cell/\((cellsFrom (s.heap.objs.size+1) scope.names []).lookup y.1).isSome=true):=λ⟨n,v⟩ hy=>by
  rcases S.par n (List.of_mem_zip hy).1 with z | z
  .exact .inl z
  exact .inr ⟨z,cellsFrom_some _ _ _ (.inl z)⟩
 refine kla_callFunE hr.depth ef rfl S.co S.gen rfl ec ?_;rw [sZ us lu];refine aH (wpAny_newFunctionEnv_cells S.kind jz λenv he s1 x=>?_);subst he;refine⟨lim.keeps x.toInCall.keep,kla_codeExpr ?_⟩;have I:Inv (pJ fK P w K mg base N q scope f (.ref c') A outer s H λ_ _ _=>False) [] (start N vs) H s1:=vk S hr.hd e0 hl rv x;refine dS (jB A outer s H [] s1 (start N vs) H _ I h) (λv s' bI=>?_) λe s' z=>z;obtain⟨y,H',J,r,z⟩:=bI;exact⟨y,H',J.os,J.bare,J.base,J.cu,r,z⟩
end
section
variable {X:Cx}{i:Nat}{x:Str}{e:Expr}{es:z0r}{t:TA}{p pos:Pos}{q:Str}{params:Arguments}{body:Expr}{scope:Scope}{N ps:z0t}{k:Nat}{te:TE}
def FN (i:Nat)(q:Str)(params:Arguments)(body:Expr)(scope:Scope) (N ps:z0t)(t:TA)(te:TE):TE:=λσ H Q=>∃f pm c' gL,σ[i]?=some (some (.ref f)) /\
 t σ H λvs H1=>H1 f=some (px f (kla_obj "<lambda>" q params body scope [] pm c' gL))/\H1 c'=some (j7 c' q)/\vs.length=ps.length/\te (start N vs) H1 Q
def A7 (hN:X.N[i]?=some x)(hx:X.env.scope.names.lookup x=some .local)(S:aK N ps scope)(hr:gC (k+1) X.A)
  (sZ:∀(pm gL:Value)(c':Addr)(us:z0n),us.length=ps.length->bindArgs (kla_fn "<lambda>" q params body scope [] pm (.ref c') gL) ⟨us,[]⟩=pure (ps.zip us))
  (jB:∀(f c':Addr)(A:Around)(outer:List Env)(s:Shared)(H:Hp),PE (pJ fK X.prog X.w X.K X.mg X.base N q scope f (.ref c') A outer s H λ_ _ _=>False) body te)(ha:PA X (e::es) t)
  (ED:(x == ("__debug__":Str))=false:=by decide)(he:218:=by rfl)(C2:(backTo pos (starEach es X.env)).any 82=false:=by rfl) :
  PE X (.Call (.Name x p) (e::es) [] pos) (FN i q params body scope N ps t te):=by
 intro ag s σ H Q I h;obtain⟨f,pm,c',gL,hσ,h⟩:=h;obtain⟨m,hn,hl⟩:=I.loc;obtain⟨u,ru,lk⟩:=hl i x (.ref f) hN hσ (.inl hx);cases (show u=Value.ref f from ru);have hm:m x=some (.ref f):=by
  rcases lk with l | ⟨l,_⟩
  .exact l.2
  have l':X.env.scope.names.lookup x=some .cell\/X.env.scope.names.lookup x=some .free:=l;rw [hx] at l';rcases l' with l' | l' <;> cases l'
 refine qV (wpAny_Name (wm I.ok.kind hx hn hm ?_) ED);refine callWith_def (o:=kla_obj "<lambda>" q params body scope [] pm c' gL) rfl (dB (ha pos ag s σ H _ I h) λus s1 bI=>?_) he;obtain⟨vs,H1,I1,r,z1,z2,z3,z4⟩:=bI;obtain⟨ef,_⟩:=I1.cu f _ z1;refine⟨ef,ki (codeAny_mono (K3 (k:=k) S (λus hl=>sZ pm gL c' us hl) (jB f c') X.A X.stack s1 H1 us vs Q hr I1.O9 z1 z2 r z3 z4) λr' s' z=>?_)⟩;cases r' with
 | error e=>exact z.elim
 | ok fl =>
  cases fl with
  | ret u=>exact I1.after z
  | next=>exact z.elim
  | brk=>exact z.elim
  | cont=>exact z.elim
end
def Jo (ts:z0q)(H:Hp):Prop:=∀b,H b=none\/(∃o xs,H b=some (.md o (.lst xs)))\/(b∈ts/\H b=some (.ui #[]))
def Es {P:Program}{w:World}{K:Frag}{mg mb:z0c}{CX:Ff}{k:Nat}{fa a:Addr}{fd:FuncData}{x:Str}{sp:Sp}{s₁:Shared}{vs:z0n}{ns:z0u}{ts:z0q}
  (KX:K.In s₁.heap)(uj:s₁.heap.Ns mainGlobals mg)(hb:s₁.heap.Ns builtinsNs mb)(Tc:∀x:Str,x ≠ "__name__" -> mb x=bootBuiltins x)(YF:s₁.heap.NoLimit)
  (hbm:Exists λbm=>Exists λob=>mg "__builtins__"=some (.ref bm)/\bm≠builtinsNs/\s₁.heap.get? bm=some ob/\ob.cls=.type "module" /\ ob.dict=some builtinsNs/\ob.data=.plain)(hg:s₁.gens=#[])
  (OB:∀T∈ts,s₁.heap.get? T=some (tabObj #[])/\K.lookup T=none/\∃c,codeHdIn K c T=true)
  (ha:s₁.heap.get? a=some { cls:=.type "list",data:=.seq vs.toArray })(hi:IntsAre vs ns)(hl:ns.length<=sizeLine)(hr:gC k callerA)
  (F:∀base:Heap,K.In base->base.Ns mainGlobals mg->uf mg base->bR P w K mg base CX k fa fd [x] sp)(sZ:∀(s:Shared)(u:Value),BindsTo s fd ⟨[u],[]⟩ [(x,u)])
  (Fp:∀H:Hp,Jo ts H->(∀T∈ts,H T=some (.ui #[]))->aI K H a (ns.map V.int)->sp [.ref a] H (λv _=>v=.bl true) λ_ _ _=>False)
  (Ze:∀H e s',CX [] H s₁ (λ_ _ _=>False) e s'->False) :
  codeAny (model P w) callerA (.call (.ref fa) ⟨[.ref a],[]⟩) (λr s'=>r=.ok (.ret (.bool true))/\OldK s₁.heap s'.heap/\s'.os=s₁.os/\AllBare s'.gens) s₁:=by
 have rv:=uS hi;have XZ:=hi.length;have core:∀H:Hp,Jo ts H->(∀T∈ts,H T=some (.ui #[]))->aI K H a (ns.map V.int)->nh P w H s₁.heap->(∀b,H b≠none->b=a\/b∈ts)->(H a≠none->K.lookup a=none) ->
   codeAny (model P w) callerA (.call (.ref fa) ⟨[.ref a],[]⟩) (λr s'=>r=.ok (.ret (.bool true))/\OldK s₁.heap s'.heap/\s'.os=s₁.os/\AllBare s'.gens) s₁:=by
  intro H hO hT hS cu hA hK;have xW:∀{b:Addr}{o:Obj},s₁.heap.get? b=some o->H b=none->(uB s₁.heap H).get? b=some o:=λe n=>Iq e n;have off:∀{b:Addr}{o:Obj},s₁.heap.get? b=some o->(∀aT n,o.data≠.seq aT n)->(∀fs,o.data≠.fields fs)->H b=none:=λ{b o} e d1 d2=>by
   cases q:H b with
   | none=>rfl
   | some u =>
    rcases hA b (by rw [q];simp) with e' | e'
    .subst e';rw [ha] at e;cases e;exact(d1 _ _ rfl).elim
    rw [(OB b e').1] at e;cases e;exact(d2 _ rfl).elim
  have U3:∀{b:Addr}{m:z0c},s₁.heap.Ns b m->(uB s₁.heap H).Ns b m:=λ{b m} ⟨o,es,ep,e,d,r⟩=>⟨o,es,ep,xW e (off e (λ_ _ z=>by rw [d] at z;cases z) λ_ z=>by rw [d] at z;cases z),d,r⟩;have hKb:K.In (uB s₁.heap H):=λb o e=>xW (KX b o e) (by
   cases q:H b with
   | none=>rfl
   | some u =>
    rcases hA b (by rw [q];simp) with e' | e'
    .subst e';rw [hK (by rw [q];simp)] at e;cases e
    rw [(OB b e').2.1] at e;cases e)
  have hM:Mod K mg (uB s₁.heap H):=⟨hKb,U3 uj,⟨mb,U3 hb,Tc⟩,let ⟨mc,h1,h2⟩:=YF;⟨mc,U3 h1,h2⟩⟩;have Tf:uf mg (uB s₁.heap H):=by
   obtain⟨bm,ob,b1,b2,b3,b4,b5,b6⟩:=hbm;refine⟨bm,ob,b1,b2,λz=>?_,xW b3 (off b3 (λ_ _ z=>by rw [b6] at z;cases z) λ_ z=>by rw [b6] at z;cases z),b4,b5,b6⟩;obtain⟨o,es,ep,e,d,_⟩:=uj;rw [<-z,b3] at e;cases e;rw [b6] at d;cases d
  have e0:zZ P w K mg (uB s₁.heap H) callerA [] s₁ H:=⟨rfl,hM,λb o e=>KO e,Nat.le_of_eq (EC _ _),trivial,λb hb=>absurd (show b∈([]:z0q) from hb) 135,cu,.of_eq hg⟩;refine codeAny_mono ((F _ hKb (U3 uj) Tf).run callerA [] s₁ H ⟨[.ref a],[]⟩ [.ref a] [.ref a] _ _ hr e0 (sZ s₁ (.ref a)) (.cons rfl .nil) (Fp H hO hT hS)) λr s' h=>?_;cases r with
  | error e=>exact(Ze H e s' h).elim
  | ok fl =>
   cases fl with
   | next=>exact False.elim h
   | brk=>exact False.elim h
   | cont=>exact False.elim h
   | ret u =>
    obtain⟨v,H',os,bare,un,Sy,r',q⟩:=h;have q':v=.bl true:=q;subst q';obtain rfl:u=Value.bool true:=r';have each:∀b o,s₁.heap.get? b=some o->asItWas s₁.heap s'.heap b o/\∃o',s'.heap.get? b=some o':=λb o e=>by
     cases q:H b with
     | none =>
      have z:=un.keep b o e q (by intro z;exact absurd (show b∈([]:z0q) from z) 135) 135;exact⟨.inl z,o,z⟩
     | some u =>
      rcases hO b with z | ⟨ob,xs,z⟩ | ⟨JG,z⟩
      .rw [q] at z;cases z
      .have z2:=un.uD b ob _ z;obtain⟨e1,_⟩:=cu b _ z;obtain⟨e2,_⟩:=Sy b _ z2;rw [e] at e1;cases e1;exact⟨.inl e2,_,e2⟩
      obtain⟨more,z2⟩:=un.ur b _ z;have e2:s'.heap.get? b=some (tabObj (#[]++more)):=Sy b _ z2;rw [(OB b JG).1] at e;cases e;obtain⟨c,hc⟩:=(OB b JG).2.2;obtain⟨oc,vs',file,tf,flags,tg,inF,text,tt,d1,d2,d3,d4,_⟩:=codeHd_of_K KX hc;exact⟨.inr (.inl ⟨⟨c,oc,vs',d1,d2,d3,d4⟩,rfl,#[],more,rfl,e2⟩),_,e2⟩
    exact⟨rfl,⟨λb o e=>(each b o e).1,λb o e=>(each b o e).2⟩,os,bare⟩
 have na:a∉ts:=λz=>by
  have:=(OB a z).1;rw [ha] at this;cases this
 cases hk:K.lookup a with
 | some o =>
  have e:=KX a o hk;rw [ha] at e;cases e;refine core (λb=>if b∈ts then some (.ui #[]) else none) (λb=>?_) (λT h=>aw h) (.inr ⟨_,vs.toArray,_,hk,rfl,rfl,rfl,by rw [cH,XZ];exact hl,by simpa using rv⟩) (λb u z=>?_) (λb z=>?_) λz=>absurd (ar na) z
  .by_cases h:b∈ts
   .exact .inr (.inr ⟨h,aw h⟩)
   exact .inl (ar h)
  .by_cases h:b∈ts
   .have z':=(aw h).symm.trans z;cases z';exact(OB b h).1
   have z':=(ar h).symm.trans z;cases z'
  by_cases h:b∈ts
  .exact .inr h
  exact absurd (ar h) z
 | none =>
  refine core (λb=>if b=a then some (.md { cls:=.type "list",data:=.seq vs.toArray } (.lst (ns.map V.int))) else if b∈ts then some (.ui #[]) else none) (λb=>?_) (λT h=>?_) (.inl (.inr ⟨{ cls:=.type "list",data:=.seq vs.toArray },aw rfl⟩)) (λb u z=>?_) (λb z=>?_) λ_=>hk
  .by_cases hb:b=a
   .exact .inr (.inl ⟨_,_,aw hb⟩)
   by_cases h:b∈ts
   .exact .inr (.inr ⟨h,(ar hb).trans (aw h)⟩)
   exact .inl ((ar hb).trans (ar h))
  .exact(ar (λz:T=a=>na (z ▸ h))).trans (aw h)
  .by_cases hb:b=a
   .have z':=(aw hb).symm.trans z;cases z';subst hb;exact⟨ha,by rw [au];exact hl,vs,_,rv,ha⟩
   by_cases h:b∈ts
   .have z':=((ar hb).trans (aw h)).symm.trans z;cases z';exact(OB b h).1
   have z':=((ar hb).trans (ar h)).symm.trans z;cases z'
  by_cases hb:b=a
  .exact .inl hb
  by_cases h:b∈ts
  .exact .inr h
  exact absurd ((ar hb).trans (ar h)) z
def FD {l:OpenLaw}{n k:Nat}{q:Program}{loose:z0t}{XP:z0c->Heap->Prop}{YP:World->Heap->Prop}{d:DefRec}{K:Params->Frag}{CX:World->Ff}{sp:World->Sp}{x:Str}{ts:z0q}
  (hn:l.most=some n)(Fq:n<=sizeLine)(SX:d.params.defaults=[])(hr:gC k callerA)
  (hY:∀(w:World)(h:Heap),YP w h->(K w.params).In h/\∀T∈ts,h.get? T=some (tabObj #[]))
  (hK:∀w:World,∀T∈ts,(K w.params).lookup T=none/\∃c,codeHdIn (K w.params) c T=true)
  (F:∀(w:World)(mg:z0c)(fa:Addr)(h:Heap),(K w.params).In h->h.Ns mainGlobals mg->mg d.name=some (.ref fa) ->
   ∃fd:FuncData,(∀(s:Shared)(u:Value),BindsTo s fd ⟨[u],[]⟩ [(x,u)]) /\
    ∀base:Heap,(K w.params).In base->base.Ns mainGlobals mg->uf mg base->bR l.prog w (K w.params) mg base (CX w) k fa fd [x] (sp w))
  (Fp:∀(w:World)(H:Hp)(a:Addr)(ns:z0u),ns.length<=n->Jo ts H->(∀T∈ts,H T=some (.ui #[]))->aI (K w.params) H a (ns.map V.int)->sp w [.ref a] H (λv _=>v=.bl true) λ_ _ _=>False)
  (Ze:∀(w:World)(H:Hp)(s:Shared)(e:Value)(s':Shared),CX w [] H s (λ_ _ _=>False) e s'->False) :
  WalkO q loose XP YP l.row.toRowW d [] (λf vs=>PySem.call f vs):=by
 refine vX.zQ hn SX λw s₀ s₁ mg mb fa o pm cd doc a vs ns G Y ho hd yh SJ OG hints bN hg=>?_;obtain⟨KX,TX⟩:=hY w _ Y;obtain⟨fd,hb,hF⟩:=F w mg fa _ KX G.T.g SJ;exact Es KX G.T.g G.T.b G.T.builtins G.T.nolimit G.T.bmain hg (λT hT=>⟨TX T hT,hK w T hT⟩) OG hints (gr bN Fq) hr hF hb (λH hO hT hS=>Fp w H a ns bN hO hT hS) λH e s'=>Ze w H s₁ e s'
def aS {X:Cx}{scope:Scope}{js:z0j}(h:(js.all λp=>X.N[p.1]? == some p.2 && X.env.scope.names.lookup p.2 == some .cell && scope.names.lookup p.2 == some .free)=true)
  (h2:(scope.names.all λy=>y.2 != .free || X.env.scope.names.lookup y.1 == some .cell)=true):LY X scope js:=by
 refine⟨λp hp=>?_,λy hy=>?_⟩
 .have:=eG.mp h p hp;simp only [ni,beq_iff_eq] at this;exact⟨this.1.1,this.1.2,this.2⟩
 have:=eG.mp h2 _ hy;simpa using this
def vq {σ:St}{H:Hp}{A B:Hp->Prop}(h:A H):hV σ H λb H3=>if b=true then A H3 else B H3:=by
 show if true=true then A H else B H;exact By h
def goN {i:Nat}{v:V}{σ:St}{H:Hp}{Q:St->Hp->Prop}(h:Q (σ.set i (some v)) H):dD i v σ H Q:=h
def yZ {X:Cx}(K:bp)(hK:X.K=K:=by rfl):QF X (Rq K):=by
 subst hK;exact cU
def qL {X:Cx}(K:bp)(hK:X.K=K:=by rfl):QF X (Rp K):=by
 subst hK;exact bE
def dF {X:Cx}{es:z0r}{k:Nat}{t:M9}{n:Nat}{pos:Pos}(K:bp)(hc:X.calm=true)(h:Uo X es t)(hK:X.K=K:=by rfl)
  (hn:(assignEach es X.env).length=n:=by rfl)(yg:(assignEach es X.env).findIdx? 82=none:=by rfl):PG X (.Tuple es k pos) (zq K n t):=by
 subst hK;exact gq hc h hn yg
end L2
section
variable {P:PySem.Program}{w:PySem.World}{K:bp}{mg:PySem.Str->Option PySem.Value}{base:PySem.Heap}{f:PySem.Addr}{fd:PySem.FuncData}
namespace g9
open PySem L2
def top (i:Nat):Stmt:=PySem.Challenge.pw_wright_k38_places_closed.main.body.getD i (.Pass ⟨0,0,0,0⟩)
abbrev AU:Stmt:=top 2
abbrev AK:Stmt:=top 3
abbrev sq:Stmt:=top 12
abbrev xc:Stmt:=top 13
abbrev sr:Stmt:=top 14
abbrev Gm:Stmt:=top 24
abbrev AM:Stmt:=top 25
abbrev NA:Stmt:=top 26
abbrev si:Stmt:=top 28
abbrev xi:Stmt:=top 29
abbrev nR:Stmt:=top 30
abbrev xb:Stmt:=top 33
abbrev AL:Stmt:=top 34
abbrev NC:Stmt:=top 35
abbrev yE:Stmt:=top 42
abbrev Gj:Stmt:=top 4
abbrev NB:Stmt:=top 5
abbrev nU:Stmt:=top 37
abbrev oZ:Stmt:=top 38
abbrev so:Stmt:=top 39
abbrev sLT:Stmt:=top 40
structure Txt (mg:z0c):Prop where
 len:mg "len"=none
 Fl:mg "range"=none
 isi:mg "isinstance"=none
 tup:mg "tuple"=none
 lst:mg "list"=none
 Dk:mg "dict"=none
 all:mg "all"=none
 any:mg "any"=none
 str:mg "str"=none
 int:mg "int"=none
 boo:mg "bool"=none
 Lv:mg "enumerate"=none
 sum:mg "sum"=none
 max:mg "max"=none
 min:mg "min"=none
section
def boot_all:bootBuiltins "all"=some (.builtin "all"):=by decide +kernel
def gy:bootBuiltins "list"=some (.type "list"):=by decide +kernel
def gA:bootBuiltins "dict"=some (.type "dict"):=by decide +kernel
end
end g9
namespace L2
open PySem
def bz {K:bp}{H:Hp}{D a:Addr}{xs ys:List V}{o:HO}(hD:H D=some (.lst ys))(h:aY K H a xs):aY K (upd H D o) a xs:=by
 rcases h with (h | ⟨u,h⟩) | h
 .exact .inl (.inl (by rw [aj (λz=>by rw [z,hD] at h;cases h)];exact h))
 .exact .inl (.inr ⟨u,by rw [aj (λz=>by rw [z,hD] at h;cases h)];exact h⟩)
 exact .inr h
def xY (kvs:87)(k:aN):(kvs.any λkv=>decide (kv.1=k))=true↔k∈kvs.map 82:=by
 rw [List.any_eq_true,bY];constructor
 .rintro⟨x,h1,h2⟩;exact⟨x,h1,cW h2⟩
 rintro⟨x,h1,h2⟩;exact⟨x,h1,cE h2⟩
def A4 {kvs:87}{k:aN}{v:V}(h:k∈kvs.map 82):(bQ kvs k v).map 82=kvs.map 82:=by
 unfold bQ;rw [aw ((xY kvs k).mpr h),fc];refine rC λx hx=>?_;show (if x.1=k then (x.1,v) else x).1=x.1
 split <;> rfl
def i0 {kvs:87}{k:aN}{v:V}(h:¬k∈kvs.map 82):(bQ kvs k v).map 82=kvs.map 82++[k]:=by
 unfold bQ;rw [ar (λz=>h ((xY kvs k).mp z)),bj];rfl
def eQ (kvs:87)(k:aN):(aZ kvs k).isSome=true↔k∈kvs.map 82:=by
 rw [<-iJ];exact xY kvs k
theorem cY {α β γ:Type}{F:α->β->Prop}{G:α->γ->Prop}{φ:β->γ}:∀{xs:List α}{ys:List β},Paired F xs ys->(∀a b,F a b->G a (φ b))->Paired G xs (ys.map φ)
 | _,_,.nil,_=>.nil
 | _,_,.cons h t,k=>.cons (k _ _ h) (cY t k)
def de {z:Str}{l:z0t}:(88:aN)∈l.map Sum.inr↔z∈l:=by
 rw [bY];constructor
 .rintro⟨x,h1,h2⟩;rw [<-kn h2];exact h1
 intro h;exact⟨z,h,rfl⟩
end L2
namespace M11
abbrev ax:=PySem.Str×List PySem.Str
def gM (a:List PySem.Str)(h:PySem.Str):List PySem.Str:=if h∈a then a else a++[h]
def xS (bX hs:List PySem.Str):List PySem.Str:=hs.foldl gM bX
def addW (bf a:List PySem.Str)(p:PySem.Str):List PySem.Str:=if p∈bf then a else gM a p
def uh (bf bX ps:List PySem.Str):List PySem.Str:=ps.foldl (addW bf) bX
def y_ (aa:83)(name:PySem.Str) (k:Nat):Bool:=decide ((aa[k]?.map 82)=some name)
def nums (aa:83)(name:PySem.Str) (i:Nat):z0u:=((List.range i).filter (y_ aa name)).map λk:Nat=>(k:Int)
def Eg (aa:83)(name:PySem.Str) (i:Nat):nums aa name (i+1)=nums aa name i++(if y_ aa name i=true then [(i:Int)] else []):=by
 unfold nums;rw [List.range_succ,pQ,bj]
 congr 1
 by_cases h:y_ aa name i=true
 .rw [aw h];simp [h]
 rw [ar h];simp [h]
def yO (aa:83)(name:PySem.Str) (i:Nat):(nums aa name i).length<=i:=by
 unfold nums;rw [au];have:=jk (y_ aa name) (List.range i);rw [qT] at this;exact this
def ox (a:List PySem.Str)(h:PySem.Str):(gM a h).length<=a.length+1:=by
 unfold gM;split <;> simp
theorem i5:∀(hs bX:List PySem.Str),(xS bX hs).length<=bX.length+hs.length
 | [],bX=>by simp [xS]
 | h::r,bX=>by
  have:=i5 r (gM bX h);have:=ox bX h;show (xS (gM bX h) r).length<=_;rw [dI];omega
def Jd (bf a:List PySem.Str)(p:PySem.Str):(addW bf a p).length<=a.length+1:=by
 unfold addW;split
 .omega
 exact ox a p
theorem nr (bf:List PySem.Str):∀(ps bX:List PySem.Str),(uh bf bX ps).length<=bX.length+ps.length
 | [],bX=>by simp [uh]
 | p::r,bX=>by
  have:=nr bf r (addW bf bX p);have:=Jd bf bX p;show (uh bf (addW bf bX p) r).length<=_;rw [dI];omega
end M11
namespace g9
open PySem L2 M11
def iR {bX:87}{as:z0t}(e:bX.map 82=as.map Sum.inr)(h:Str){v:V}:(bQ bX (Sum.inr h) v).map 82=(gM as h).map Sum.inr:=by
 unfold gM;by_cases q:h∈as
 .rw [aw q,A4 (by rw [e];exact de.mpr q),e]
 rw [ar q,i0 (by rw [e];exact λz=>q (de.mp z)),e,bj];rfl
theorem n6:∀(hs:z0t)(bX:87) (as:z0t),bX.map 82=as.map Sum.inr->(di (hs.map λh=>((Sum.inr h:aN),V.bl true)) bX).map 82=(xS as hs).map Sum.inr
 | [],bX,as,e=>e
 | h::r,bX,as,e=>by
  refine n6 r (bQ bX (Sum.inr h) (.bl true)) (gM as h) ?_;exact iR e h
def keys_str {kvs:87}{zs:z0t}(e:kvs.map 82=zs.map Sum.inr):(kvs.map λp=>kV p.1)=148:=by
 have e2:(kvs.map λp=>kV p.1)=(kvs.map 82).map kV:=by rw [fc];rfl
 rw [e2,e,fc];rfl
section
def Du (K:bp)(H:Hp)(r:Addr)(ru:ax):Prop:=∃p,aY K H r [.str ru.1,.ref p]/\aY K H p (ru.2.map V.str)
def bK (K:bp)(H:Hp)(rs:z0q)(aa:83):Prop:=Paired (λr ru=>Du K H r ru) rs aa
def bK.keep {H H':Hp}{rs:z0q}{aa:83}(h:bK K H rs aa)(k:∀a xs,aY K H a xs->aY K H' a xs):bK K H' rs aa:=Paired.b_ h λr ru ⟨p,a,b⟩=>⟨p,k _ _ a,k _ _ b⟩
def bK.same {H H':Hp}{rs:z0q}{aa:83}(h:bK K H rs aa)(s:aD H H'):bK K H' rs aa:=h.keep λ_ _ z=>s.tup z
def bK.get {H:Hp}{rs:z0q}{aa:83}(h:bK K H rs aa){i:Nat}{r:Addr}(e:rs[i]?=some r):∃ru,aa[i]?=some ru/\Du K H r ru:=by
 have l:=bc h;have li:=(bw.mp e).1;have e2:aa[i]?=some (aa[i]'∅):=df ∅;obtain⟨x,e3,e4⟩:=Paired.at_ h i _ e2;rw [e] at e3;cases e3;exact⟨_,e2,e4⟩
def tQ {H:Hp}{R D:Addr}{rs:z0q}{aa:83}{σ:St}{Qp:Hp->Prop}(hR:aI K H R 146)(cI:bK K H rs aa)(bN:aa.length<=1000)(hD:H D=none)
  (q:∀ts H2,aD H H2->H2 D=some 163->Paired (λt h=>aY K H2 t [.str h,.bl true]) ts (aa.map 82)->Qp H2) :
  ∃W:183,(∃m,W 0 m [] (dO ["head","parts"] [] σ) 179) /\
 ∀i m ys σ' H,W i m ys σ' H->((jG K R).stop i H/\Qp H)\/((jG K R).go i H/\∃m',m' < m/\∀x H',(jG K R).lS i H x H'->zq K 2 (iT (dD 0) (iT (dD 1) BN)) x σ' H' λσ2 H2=>hV σ2 H2 λb H3 =>
  if b=true then uu (gQ (gK 0) (gQ (tC (.bl true)) qj)) σ2 H3 182 else W (i+1) m' ys σ2 H3):=by
 have ll:=bc cI;refine bT (xs:=138) (λi ys σ2 H2=>∃ts:z0q,ys=ts.map V.ref/\ts.length=i/\Paired (λt h=>aY K H2 t [.str h,.bl true]) ts ((aa.take i).map 82)/\(∃y0 y1,σ2=[y0,y1])/\aD H H2/\H2 D=some (.lst ys))
  ⟨[],rfl,rfl,.nil,⟨none,none,rfl⟩,af hD _,ae⟩ (λi ys σ2 H2 _ h=>?_) (λi x ys σ2 H2 ex h=>?_) (λys σ2 H2 h=>?_)
 .obtain⟨_,_,_,_,_,sm,_⟩:=h;exact sm.seq hR
 .obtain⟨ts,rfl,ht,hp,⟨y0,y1,rfl⟩,sm,hd⟩:=h;rw [a0] at ex;obtain⟨r,er,rfl⟩:=b0.mp ex;obtain⟨ru,e1,p,v1,v2⟩:=cI.get er;have li:=(bw.mp e1).1;refine⟨r,_,rfl,sm.tup v1,rfl,_,_,rfl,_,_,rfl,rfl,?_⟩;refine vq ?_;refine⟨_,rfl,qi,λt jH=>⟨?_,176,ts++[t],?_,?_,?_,⟨_,_,rfl⟩,?_,ae⟩⟩
  .rw [aj (aC hd jH)];exact hd
  .rw [bj];rfl
  .rw [a8,ht];rfl
  .rw [cO,e1,bj];have iW:upd H2 t (.tup [.str ru.1,.bl true]) D=some 163:=by rw [aj (aC hd jH)];exact hd
   exact gk (Paired.b_ hp λt' h' z=>bz iW ((af jH _).tup z)) (bz iW (aY.of ae))
  intro b o hb;rw [203];exact af jH _ _ _ (sm b o hb)
 obtain⟨ts,rfl,ht,hp,_,sm,hd⟩:=h;rw [au,ll,cw] at hp;exact q ts H2 sm hd hp
def lB (K:bp):Sp:=λvs H Q _=>∃(R:Addr)(rs:z0q)(aa:83),vs=[.ref R]/\aI K H R 146/\bK K H rs aa/\aa.length<=1000 /\
 ∀D H',H D=none->aD H H'->H' D=some (.lst ((xS [] (aa.map 82)).map V.str))->Q (.ref D) H'
def Ka:aK ["rules"] ["rules"] (ay AU):=152
def Hr (F:ir K "heads_of" "heads_of" AU f fd)(T:Txt mg):bR P w K mg base fK 1 f fd ["rules"] (lB K):=by
 refine F.ok Ka 157 161
 .obtain⟨R,rs,aa,rfl,_⟩:=h;rfl
 obtain⟨R,rs,aa,rfl,hR,cI,bN,q⟩:=h;refine⟨_,ao (br (bL (mY rfl) rfl T.lst gy (ab (bL (eZ rfl) rfl T.Dk gA (ab
  (aV ["head","parts"] [] rfl (aR (pv 0)) (aS rfl rfl) nofun rfl nofun
   (λ_ _ _ _ _=>dF (n:=2) K rfl (aB (aq (i:=0) (show (["head","parts"]:z0t).Nodup by decide +kernel) rfl 84) (aB (aq (i:=1) (show (["head","parts"]:z0t).Nodup by decide +kernel) rfl 84) bH))) 177
   (λ_ _ _ _ _=>bW (ab (pv 0) (ab fq ak)))) ak)) ak))),?_⟩
 dsimp only [zC];refine⟨_,rfl,R,rfl,⟨_,hR⟩,λD hD=>tQ hR cI bN hD λts H2 sm hd hp=>?_⟩;have kp:Paired (λt (kv:aN×V)=>aY K H2 t [kV kv.1,kv.2]) ts ((aa.map 82).map λh=>((Sum.inr h:aN),V.bl true)):=cY hp λ_ _ z=>z;refine⟨D,ts,_,rfl,hd,kp,λd hd2=>?_⟩;refine⟨d,_,rfl,ae,λD2 jI=>?_⟩;rw [keys_str (n6 (aa.map 82) [] [] rfl)];have nd:D2≠d:=λz=>by rw [z,ae] at jI;cases jI
 exact q D2 _ (sm.free (by rw [aj nd] at jI;exact jI)) (sm.trans ((af hd2 _).trans (af jI _))) ae
theorem jD:∀(aa:83) (n:Nat),aa.length<=n->198->(aa.flatMap (·.2)).length<=8 * n
 | [],n,_,_=>85
 | ru::r,n,hl,h=>by
  rw [dI] at hl;have:=jD r (n - 1) ∅ λx hx=>h x (cS _ hx);have:=h ru cR;rw [pO,a8];omega
def hd (aa:83):z0t:=xS [] (aa.map 82)
def Cv (K:bp):Sp:=λvs H Q _=>∃(R:Addr)(rs:z0q)(aa:83),vs=[.ref R]/\aI K H R 146/\bK K H rs aa/\aa.length<=1000/\198 /\
 ∀D H',H D=none->aD H H'->H' D=some (.lst ((uh (hd aa) [] (aa.flatMap (·.2))).map V.str))->Q (.ref D) H'
def lC:aK ["rules","heads","words","head","parts","part"] ["rules"] (ay AK):=152
def Hh (F:ir K "words_in" "words_in" AK f fd)(T:Txt mg):bR P w K mg base fK 1 f fd ["rules"] (Cv K):=by
 refine F.ok lC 157 161
 .obtain⟨R,rs,aa,rfl,_⟩:=h;rfl
 obtain⟨R,rs,aa,rfl,hR,cI,bN,h8,q⟩:=h;have hu:=fY hr;refine⟨_,ai (az (i:=1) lC.nd rfl 84 (bL (eZ rfl) rfl T.Dk gA (ab
  (aV ["head","parts"] [] rfl (aR (pv 0)) (aS rfl rfl) nofun rfl nofun
   (λ_ _ _ _ _=>dF (n:=2) K rfl (aB (aq (i:=0) (show (["head","parts"]:z0t).Nodup by decide +kernel) rfl 84) (aB (aq (i:=1) (show (["head","parts"]:z0t).Nodup by decide +kernel) rfl 84) bH))) 177
   (λ_ _ _ _ _=>bW (ab (pv 0) (ab fq ak)))) ak)))
  (ai (az (i:=2) lC.nd rfl 84 fR)
  (ai (bJ bV rfl (aR (pv 0)) (gq rfl (aB (aq (i:=3) lC.nd rfl 84) (aB (aq (i:=4) lC.nd rfl 84) bH)))
   (ao (bJ bV rfl (eV (pv 4)) (aq (i:=5) lC.nd rfl 84)
    (ao (cq (fw (dC hu (pv 5) (pv 1))) (ao (fC hu (pv 2) (pv 5) fq rfl)) a7)))))
  (ao (br (bL (mY rfl) rfl T.lst gy (ab (pv 2) ak)))))),?_⟩
 nofun
 refine⟨_,rfl,R,rfl,⟨_,hR⟩,λD hD=>tQ hR cI bN hD λts H2 sm hd2 hp=>?_⟩;have kp:Paired (λt (kv:aN×V)=>aY K H2 t [kV kv.1,kv.2]) ts ((aa.map 82).map λh=>((Sum.inr h:aN),V.bl true)):=cY hp λ_ _ z=>z;refine⟨D,ts,_,rfl,hd2,kp,λd ON=>?_⟩;have My:(di ((aa.map 82).map λh=>((Sum.inr h:aN),V.bl true)) []).map 82=(hd aa).map Sum.inr:=n6 (aa.map 82) [] [] rfl;generalize di ((aa.map 82).map λh=>((Sum.inr h:aN),V.bl true)) []=kH at My ⊢;have PX:=sm.trans (af ON (.dK kH));have iW:upd H2 d (.dK kH) d=some (.dK kH):=ae;generalize upd H2 d (.dK kH)=H3 at PX iW;intro e he;have hde:∀o,upd H3 e o d=some (.dK kH):=λo=>by rw [aj (aC iW he)];exact iW
 have CJ:∀o,aD H (upd H3 e o):=λo=>PX.trans (af he o);have ll:=bc cI
 let yd:t_:=λi σ H5=>∃(kvs:87)(y3 y4 y5:Option V),σ=[aE R,aE d,aE e,y3,y4,y5]/\H5=upd H3 e (.dK kvs) /\
  kvs.map 82=(uh (hd aa) [] ((aa.take i).flatMap (·.2))).map Sum.inr
 refine⟨_,rfl,R,rfl,⟨_,(CJ _).seq hR⟩,bP (xs:=138) yd ⟨[],none,none,none,rfl,rfl,rfl⟩ ?_ ?_ ?_⟩
 .rintro i σ H5 _ ⟨kvs,y3,y4,y5,rfl,rfl,_⟩;exact(CJ _).seq hR
 .rintro i x σ H5 ex ⟨kvs,y3,y4,y5,rfl,rfl,hk⟩
  ac_nf0
  rw [a0] at ex;obtain⟨r,er,rfl⟩:=b0.mp ex;obtain⟨ru,e1,p,v1,v2⟩:=cI.get er;have li:=(bw.mp e1).1;have OW:=h8 ru (cC e1);have eT:(aa.take (i+1)).flatMap (·.2)=(aa.take i).flatMap (·.2)++ru.2:=by
   rw [cO,e1,rB];simp
  have lA:((aa.take i).flatMap (·.2)).length<=8 * i:=jD (aa.take i) i (by rw [dJ];omega) λru iq=>h8 ru (uN iq);refine⟨r,_,rfl,(CJ _).tup v1,rfl,_,_,rfl,_,_,rfl,rfl,?_⟩
  let E9:t_:=λj σ H6=>∃(kvs:87)(y5:Option V),σ=[aE R,aE d,aE e,some (.str ru.1),aE p,y5]/\H6=upd H3 e (.dK kvs) /\
   kvs.map 82=(uh (hd aa) [] ((aa.take i).flatMap (·.2)++ru.2.take j)).map Sum.inr
  refine⟨_,rfl,p,rfl,⟨_,(CJ _).tup v2⟩,xN (xs:=ru.2.map V.str) E9 ⟨kvs,_,rfl,rfl,by rw [List.take_zero,d_];exact hk⟩ ?_ ?_ ?_⟩
  .rintro j σ H6 _ ⟨kvs,y5,rfl,rfl,_⟩;exact(CJ _).tup v2
  .rintro j x σ H6 iH ⟨kvs,y5,rfl,rfl,EB⟩
   ac_nf0
   rw [a0] at iH;obtain⟨z,ez,rfl⟩:=b0.mp iH;have lj:=(bw.mp ez).1;have eS:uh (hd aa) [] ((aa.take i).flatMap (·.2)++ru.2.take (j+1))=addW (hd aa) (uh (hd aa) [] ((aa.take i).flatMap (·.2)++ru.2.take j)) z:=by
    rw [cO,ez,<-iu];exact v_
   have lk:kvs.length<=8 * i+8:=by
    have h1:kvs.length=(uh (hd aa) [] ((aa.take i).flatMap (·.2)++ru.2.take j)).length:=by
     have:=congrArg List.length EB;rw [au,au] at this;exact this
    have h2:=nr (hd aa) ((aa.take i).flatMap (·.2)++ru.2.take j) [];rw [a8,dJ] at h2;simp only [j_] at h2;omega
   have mem:(aZ kH 139).isSome=true↔z∈hd aa:=by rw [eQ,My];exact de
   refine⟨_,rfl,_,rfl,d,_,rfl,cg.k (k:=88) (hde _),_,rfl,?_⟩;refine 184
   .have nm:z∉hd aa:=λh=>by rw [mem.mpr h] at c;exact absurd c nofun
    refine⟨_,rfl,_,rfl,e,_,rfl,jX.k (k:=88) ae (bB ∅),?_⟩;refine⟨bQ kvs 139 (.bl true),_,rfl,by rw [nu],?_⟩;rw [eS];unfold addW;rw [ar nm];exact iR EB z
   have im:z∈hd aa:=mem.mp (by
    cases h:(aZ kH 139).isSome with
    | true=>rfl
    | false=>exact absurd (by rw [h];rfl) c)
   refine⟨kvs,_,rfl,rfl,?_⟩;rw [eS];unfold addW;rw [aw im];exact EB
  rintro σ H6 ⟨kvs,y5,rfl,rfl,EB⟩;rw [au,cw,<-eT] at EB;exact⟨kvs,_,_,_,rfl,rfl,EB⟩
 rintro σ H5 ⟨kvs,y3,y4,y5,rfl,rfl,hk⟩;rw [au,ll,cw] at hk;refine⟨_,rfl,e,_,rfl,ae,λD2 jI=>?_⟩;rw [keys_str hk];exact q D2 _ ((CJ _).free jI) ((CJ _).trans (af jI _)) ae
end
end g9
namespace L2
open PySem
section
variable {K:bp}{a D:Addr}{xs:List V}{ts:z0t}{js:z0j}{g:TG}{tif:TT}{te:TE}{R:Hp->Prop}{σ:St}{H:Hp}
def gI (Pv:Nat->List V->St->Hp->Prop)(h0:Pv 0 [] (dO ts js σ) 179)(hl:∀i ys σ H,i<=xs.length->Pv i ys σ H->aY K H a xs)
  (hs:∀i x ys σ H,xs[i]?=some x->Pv i ys σ H->g x σ H 220)
  (hd:∀ys σ H,Pv xs.length ys σ H->R H) :
  ∃W:183,(∃m,W 0 m [] (dO ts js σ) 179) /\
 ∀i m ys σ' H,W i m ys σ' H->((oy K a).stop i H/\R H)\/((oy K a).go i H/\∃m',m' < m/\∀x H',(oy K a).lS i H x H'->g x σ' H' λσ2 H2=>tif σ2 H2 λb H3 =>
  if b=true then te σ2 H3 182 else W (i+1) m' ys σ2 H3):=by
 refine⟨λi m ys σ H=>m=xs.length - i/\i<=xs.length/\Pv i ys σ H,⟨xs.length,85,gp _,h0⟩,?_⟩;rintro i m ys σ' H ⟨rfl,hi,p⟩;have q:=hl i ys σ' H hi p;by_cases jd:i < xs.length
 .refine .inr ⟨⟨xs,xs[i],q,by simp [jd]⟩,xs.length - (i+1),∅,λx H' y=>?_⟩;obtain⟨e,y⟩:=y;subst e;have z:=hs i x ys σ' _ (y xs q) p;have h1:(i+1<=xs.length)=True:=eq_true jd;simp only [h1,true_and];exact z
 have e:i=xs.length:=by omega
 subst e;exact .inl ⟨⟨xs,q,aG _⟩,hd ys σ' H p⟩
def zJ (Pv:Nat->List V->St->Hp->Prop)(h0:Pv 0 [] (dO ts js σ) 179)(hl:∀i ys σ H,i<=xs.length->Pv i ys σ H->aY K H a xs)
  (hs:∀i x ys σ H t,xs[i]?=some x->Pv i ys σ H->H t=none->g (.ref t) σ (upd H t (.tup [149,x])) 220)
  (hd:∀ys σ H,Pv xs.length ys σ H->R H) :
  ∃W:183,(∃m,W 0 m [] (dO ts js σ) 179) /\
 ∀i m ys σ' H,W i m ys σ' H->((ua K a).stop i H/\R H)\/((ua K a).go i H/\∃m',m' < m/\∀x H',(ua K a).lS i H x H'->g x σ' H' λσ2 H2=>tif σ2 H2 λb H3 =>
  if b=true then te σ2 H3 182 else W (i+1) m' ys σ2 H3):=by
 refine⟨λi m ys σ H=>m=xs.length - i/\i<=xs.length/\Pv i ys σ H,⟨xs.length,85,gp _,h0⟩,?_⟩;rintro i m ys σ' H ⟨rfl,hi,p⟩;have q:=hl i ys σ' H hi p;by_cases jd:i < xs.length
 .refine .inr ⟨⟨xs,xs[i],q,by simp [jd]⟩,xs.length - (i+1),∅,λx H' y=>?_⟩;obtain⟨t,y0,rfl,ht,rfl,y⟩:=y;have z:=hs i y0 ys σ' _ t (y xs q) p ht;have h1:(i+1<=xs.length)=True:=eq_true jd;simp only [h1,true_and];exact z
 have e:i=xs.length:=by omega
 subst e;exact .inl ⟨⟨xs,q,aG _⟩,hd ys σ' H p⟩
end
def k0 {K:bp}{a:Addr}{xs:List V}{g:TG}{tb:TS}{D:Ends}{σ:St}{H:Hp}(Pv:Nat->St->Hp->Prop)(h0:Pv 0 σ H)(hl:∀i σ H,i<=xs.length->Pv i σ H->aI K H a xs)
  (hs:∀i x σ H t,xs[i]?=some x->Pv i σ H->H t=none->g (.ref t) σ (upd H t (.tup [149,x])) λσ2 H2=>tb { D with nx:=Pv (i+1),ct:=Pv (i+1),bk:=D.nx } σ2 H2)(hd:∀σ H,Pv xs.length σ H->D.nx σ H) :
  ∃W:Nat->Nat->St->Hp->Prop,(∃m,W 0 m σ H)/\∀i m σ H,W i m σ H ->
   ((Us K a).stop i H/\D.nx σ H)\/((Us K a).go i H/\∃N:St->Hp->Prop,(∀σ' H',N σ' H'->∃m',m' < m/\W (i+1) m' σ' H')/\∀x H',(Us K a).lS i H x H'->g x σ H' λσ2 H2=>tb { D with nx:=N,ct:=N,bk:=D.nx } σ2 H2):=by
 refine⟨λi m σ H=>m=xs.length - i/\i<=xs.length/\Pv i σ H,⟨xs.length,85,gp _,h0⟩,?_⟩;rintro i m σ H ⟨rfl,hi,p⟩;have q:=hl i σ H hi p;by_cases jd:i < xs.length
 .refine .inr ⟨⟨xs,xs[i],q,by simp [jd]⟩,Pv (i+1),λσ' H' p'=>⟨xs.length - (i+1),∅,rfl,jd,p'⟩,λx H' y=>?_⟩;obtain⟨t,y0,rfl,ht,rfl,y⟩:=y;exact hs i y0 σ _ t (y xs q) p ht
 have e:i=xs.length:=by omega
 subst e;exact .inl ⟨⟨xs,q,aG _⟩,hd σ H p⟩
def pG {K:bp}{a:Addr}{xs:List V}{g:TG}{tb:TS}{D:Ends}{σ:St}{H:Hp}(Pv:Nat->St->Hp->Prop)(h0:Pv 0 σ H)(hl:∀i σ H,i<=xs.length->Pv i σ H->aY K H a xs)
  (hs:∀i x σ H t,xs[i]?=some x->Pv i σ H->H t=none->g (.ref t) σ (upd H t (.tup [149,x])) λσ2 H2=>tb { D with nx:=Pv (i+1),ct:=Pv (i+1),bk:=D.nx } σ2 H2)(hd:∀σ H,Pv xs.length σ H->D.nx σ H) :
  ∃W:Nat->Nat->St->Hp->Prop,(∃m,W 0 m σ H)/\∀i m σ H,W i m σ H ->
   ((ua K a).stop i H/\D.nx σ H)\/((ua K a).go i H/\∃N:St->Hp->Prop,(∀σ' H',N σ' H'->∃m',m' < m/\W (i+1) m' σ' H')/\∀x H',(ua K a).lS i H x H'->g x σ H' λσ2 H2=>tb { D with nx:=N,ct:=N,bk:=D.nx } σ2 H2):=by
 refine⟨λi m σ H=>m=xs.length - i/\i<=xs.length/\Pv i σ H,⟨xs.length,85,gp _,h0⟩,?_⟩;rintro i m σ H ⟨rfl,hi,p⟩;have q:=hl i σ H hi p;by_cases jd:i < xs.length
 .refine .inr ⟨⟨xs,xs[i],q,by simp [jd]⟩,Pv (i+1),λσ' H' p'=>⟨xs.length - (i+1),∅,rfl,jd,p'⟩,λx H' y=>?_⟩;obtain⟨t,y0,rfl,ht,rfl,y⟩:=y;exact hs i y0 σ _ t (y xs q) p ht
 have e:i=xs.length:=by omega
 subst e;exact .inl ⟨⟨xs,q,aG _⟩,hd σ H p⟩
def vJ {K:bp}{H:Hp}{p D d:Addr}{zs:z0t}{kvs:87}{σ:St}{js:z0j}{Qp:Hp->Prop}(hσ:dO ["part"] js σ=[none,aE d])(hp:aY K H p (148))(hz:zs.length<=1000)
  (hd:H d=162)(hD:H D=none)(q:∀H2,aD H H2->H2 D=some (.lst ((zs.map λz=>(aZ kvs 139).isSome).map V.bl))->Qp H2) :
  ∃W:183,(∃m,W 0 m [] (dO ["part"] js σ) 179) /\
 ∀i m ys σ' H,W i m ys σ' H->((oy K p).stop i H/\Qp H)\/((oy K p).go i H/\∃m',m' < m/\∀x H',(oy K p).lS i H x H'->dD 0 x σ' H' λσ2 H2=>hV σ2 H2 λb H3 =>
  if b=true then Q3 (gK 0) (gK 1) σ2 H3 182 else W (i+1) m' ys σ2 H3):=by
 refine gI (xs:=148) (λi ys σ2 H2=>ys=(((zs.take i).map λz=>(aZ kvs 139).isSome).map V.bl)/\(∃y0,σ2=[y0,aE d])/\aD H H2/\H2 D=some (.lst ys))
  ⟨rfl,⟨none,hσ⟩,af hD _,ae⟩ (λi ys σ2 H2 _ h=>h.2.2.1.tup hp) (λi x ys σ2 H2 ex h=>?_) (λys σ2 H2 h=>?_)
 .obtain⟨rfl,⟨y0,rfl⟩,sm,hd2⟩:=h;rw [a0] at ex;obtain⟨z,ez,rfl⟩:=b0.mp ex;have li:=(bw.mp ez).1;refine goN (vq ?_);refine⟨_,rfl,_,rfl,d,_,rfl,cg.k (k:=88) (sm _ _ hd),hd2,bB (by rw [au,au,dJ];omega),?_,⟨_,rfl⟩,?_,ae⟩
  .rw [cO,ez,bj,bj];rfl
  intro b o hb;rw [203];exact sm b o hb
 obtain⟨rfl,_,sm,hd2⟩:=h;rw [au,cw] at hd2;exact q H2 sm hd2
def ij {K:bp}{H:Hp}{D a:Addr}{xs:List V}{ys:87}{o:HO}(hD:H D=some (.dK ys))(h:aY K H a xs):aY K (upd H D o) a xs:=by
 rcases h with (h | ⟨u,h⟩) | h
 .exact .inl (.inl (by rw [aj (λz=>by rw [z,hD] at h;cases h)];exact h))
 .exact .inl (.inr ⟨u,by rw [aj (λz=>by rw [z,hD] at h;cases h)];exact h⟩)
 exact .inr h
theorem iF {α:Type} [DecidableEq α]:∀(l m:List α),l.Nodup->(∀x∈l,x∈m)->l.length<=m.length
 | [],m,_,_=>gp _
 | a::l,m,hn,h=>by
  have hm:=h a cR;have:=iF l (m.erase a) (g_.mp hn).2 λx hx=>(List.mem_erase_of_ne (λz:x=a=>(g_.mp hn).1 (by rw [<-z];exact hx))).mpr (h x (cS _ hx));rw [Ao hm] at this;have:=Ai hm;rw [dI];omega
end L2
namespace M11
open PySem L2
inductive uc (aa:83):z0h->Prop
 | nil:uc aa []
 | snoc {aL:z0h}{k:Nat}{ru:ax}:uc aa aL->aa[k]?=some ru->ru.1∉aL.map 82->(∀p∈ru.2,p∈aL.map 82)->uc aa (aL++[(ru.1,k)])
def qz (aa:83) (n:Nat)(aL:z0h):Prop:=∀ru∈aa.take n,(∀p∈ru.2,p∈aL.map 82)->ru.1∈aL.map 82
def uc.nd {aa:83}{aL:z0h}(h:uc aa aL):(aL.map 82).Nodup:=by
 induction h with
 | nil=>exact gE
 | snoc h e n p ih =>
  rw [bj];refine iI.mpr ⟨ih,85,λa ha b hb=>?_⟩;rw [oU,bA] at hb;exact λz=>n (by rw [<-hb,<-z];exact ha)
def uc.head {aa:83}{aL:z0h}(h:uc aa aL):∀x∈aL.map 82,x∈aa.map 82:=by
 induction h with
 | nil=>simp
 | snoc h e n p ih =>
  intro x hx;rw [bj] at hx;rcases bO.mp hx with hx | hx
  .exact ih x hx
  rw [oU,bA] at hx;rw [hx];exact iw (cC e)
def uc.len {aa:83}{aL:z0h}(h:uc aa aL):aL.length<=aa.length:=by
 have:=iF _ _ h.nd h.head;rw [au,au] at this;exact this
end M11
namespace g9
open PySem L2 M11
section
def oz (K:bp)(H:Hp)(ts:z0q)(aL:z0h):Prop:=Paired (λt (e:Str×Nat)=>aY K H t [.str e.1,.int (e.2:Int)]) ts aL
def oz.keep {H H':Hp}{ts:z0q}{aL:z0h}(h:oz K H ts aL)(k:∀a xs,aY K H a xs->aY K H' a xs):oz K H' ts aL:=Paired.b_ h λt e z=>k _ _ z
structure Dz (K:bp)(aa:83)(H H5:Hp)(D d:Addr)(ts:z0q)(aL:z0h)(kvs:87):Prop where
 sm:aD H H5
 hD:H5 D=some 163
 hd:H5 d=162
 keys:kvs.map 82=(aL.map 82).map Sum.inr
 ev:oz K H5 ts aL
 emp:uc aa aL
def Dz.same {aa:83}{H H5 H6:Hp}{D d:Addr}{ts:z0q}{aL:z0h}{kvs:87}(h:Dz K aa H H5 D d ts aL kvs)(s:aD H5 H6):Dz K aa H H6 D d ts aL kvs :=
 ⟨h.sm.trans s,s _ _ h.hD,s _ _ h.hd,h.keys,h.ev.keep λ_ _ z=>s.tup z,h.emp⟩
def Dz.mem {aa:83}{H H5:Hp}{D d:Addr}{ts:z0q}{aL:z0h}{kvs:87}(h:Dz K aa H H5 D d ts aL kvs)(z:Str):(aZ kvs 139).isSome=true↔z∈aL.map 82:=by
 rw [eQ,h.keys];exact de
def Dz.len {aa:83}{H H5:Hp}{D d:Addr}{ts:z0q}{aL:z0h}{kvs:87}(h:Dz K aa H H5 D d ts aL kvs):ts.length=aL.length/\kvs.length=aL.length:=by
 refine⟨bc h.ev,?_⟩;have:=congrArg List.length h.keys;simpa using this
def Dz.more {aa:83}{H H5:Hp}{D d t:Addr}{ts:z0q}{aL:z0h}{kvs:87}(h:Dz K aa H H5 D d ts aL kvs)(fD:H D=none)(fd:H d=none){k:Nat}{ru:ax}(e:aa[k]?=some ru)
  (n:ru.1∉aL.map 82)(p:∀x∈ru.2,x∈aL.map 82)(ht:upd H5 d (.dK (bQ kvs (Sum.inr ru.1) (.bl true))) t=none) :
  Dz K aa H (upd (upd (upd H5 d (.dK (bQ kvs (Sum.inr ru.1) (.bl true)))) t (.tup [.str ru.1,.int (k:Int)])) D (.lst (ts.map V.ref++[.ref t]))) D d (ts++[t]) (aL++[(ru.1,k)]) (bQ kvs (Sum.inr ru.1) (.bl true)):=by
 have nDd:D≠d:=λz=>by have:=h.hD;rw [z,h.hd] at this;cases this
 have nt:t≠d:=λz=>by rw [z,ae] at ht;cases ht
 have Sl:H5 t=none:=by rw [aj nt] at ht;exact ht
 have nDt:D≠t:=λz=>by rw [<-z,h.hD] at Sl;cases Sl
 have jI:upd (upd H5 d (.dK (bQ kvs (Sum.inr ru.1) (.bl true)))) t (.tup [.str ru.1,.int (k:Int)]) D=some 163:=by rw [aj nDt,aj nDd];exact h.hD
 have kp:∀a xs,aY K H5 a xs->aY K (upd (upd (upd H5 d (.dK (bQ kvs (Sum.inr ru.1) (.bl true)))) t (.tup [.str ru.1,.int (k:Int)])) D (.lst (ts.map V.ref++[.ref t]))) a xs:=λa xs z =>
  bz jI ((af ht _).tup (ij h.hd z))
 refine⟨λb o hb=>?_,by rw [ae,bj];rfl,by rw [aj nDd.symm,aj nt.symm,ae],?_,gk (h.ev.keep kp) (bz jI (aY.of ae)),.snoc h.emp e n p⟩
 .have:=h.sm b o hb;rw [aj (λz=>by rw [z,fD] at hb;cases hb),aj (λz=>by rw [z,Sl] at this;cases this),aj (λz=>by rw [z,fd] at hb;cases hb)];exact this
 rw [i0 (by rw [h.keys];exact λz=>n (de.mp z)),h.keys,bj,bj];rfl
def oY (K:bp):Sp:=λvs H Q _=>∃(R:Addr)(rs:z0q)(aa:83),vs=[.ref R]/\aI K H R 146/\bK K H rs aa/\aa.length<=1000/\198 /\
 ∀D ts aL H',H D=none->aD H H'->H' D=some 163->oz K H' ts aL->uc aa aL->qz aa aa.length aL->Q (.ref D) H'
def h_:aK ["rules","told","empty","many","number","rule"] ["rules"] (ay sq):=152
def Bj (F:ir K "found_empties" "found_empties" sq f fd)(T:Txt mg):bR P w K mg base fK 1 f fd ["rules"] (oY K):=by
 refine F.ok h_ 157 161
 .obtain⟨R,rs,aa,rfl,_⟩:=h;rfl
 obtain⟨R,rs,aa,rfl,hR,cI,bN,h8,q⟩:=h;have hu:=fY hr;refine⟨_,ai (az (i:=1) h_.nd rfl 84 (bM ak))
  (ai (az (i:=2) h_.nd rfl (Or.inr rfl) fR)
  (ai (az (i:=3) h_.nd rfl 84 (yK rQ av))
  (ai (ip bV (a_ lV (pv 3) (aP aU rfl T.len ff (ab (pv 1) ak)) (cx _))
   (ai (az (i:=3) h_.nd rfl 84 (aP aU rfl T.len ff (ab (pv 1) ak)))
   (ao (bJ bV rfl (nY rfl T.Lv (ab (pv 0) ak)) (gq rfl (aB (aq (i:=4) h_.nd rfl 84) (aB (aq (i:=5) h_.nd rfl 84) bH)))
    (ao (cq (PW.pt (mH (fw (dC hu (ba bE (pv 5) av 137) (pv 2)))
      (jO (gS (aP (dX rfl) rfl T.all boot_all (ab (aV ["part"] [(2,"empty")] rfl (eV (ba bE (pv 5) av 137)) (aS rfl rfl) nofun rfl nofun
       (λ_ _ _ _ _=>aq (i:=0) (show (["part","empty"]:z0t).Nodup by decide +kernel) rfl 84) 177 (λ_ _ _ _ _=>xw (kQ hu (pv 0) (pv 1)))) ak))))))
     (ai (fC hu (pv 2) (ba bE (pv 5) av 137) fq rfl)
     (ao (cT (gX gw ix iz cv (pv 1) (ab (bW (ab (ba bE (pv 5) av 137) (ab (pv 4) ak))) ak))))) a7))))))
  (ao (br (pv 1)))))),?_⟩
 nofun
 refine⟨uo,λD hD d hd=>?_⟩;have U6:d≠D:=λz=>by rw [z,ae] at hd;cases hd
 have vp:H d=none:=by rw [aj U6] at hd;exact hd
 have e0:Dz K aa H (upd 179 d (.dK [])) D d [] [] []:=⟨(af hD _).trans (af hd _),by rw [aj U6.symm,ae];rfl,ae,rfl,.nil,.nil⟩;generalize upd 179 d (.dK [])=H0 at e0;refine⟨1,rfl,?_⟩;refine⟨λm σ H5=>∃(ts:z0q)(aL:z0h)(kvs:87) (many:Int)(y4 y5:Option V),σ=[aE R,aE D,aE d,some (.int many),y4,y5]/\Dz K aa H H5 D d ts aL kvs/\-1<=many/\many<=aL.length/\(many=aL.length->qz aa aa.length aL)/\(m:Int)=aa.length+1 - many,
  ⟨aa.length+2,[],[],[],-1,none,none,rfl,e0,∅,85,85,by simp;omega⟩,?_⟩
 rintro m σ H5 ⟨ts,aL,kvs,many,y4,y5,rfl,S,b1,b2,cl,em⟩;obtain⟨lt,lk⟩:=S.len;refine⟨_,rfl,_,rfl,D,_,rfl,.inl (aI.of S.hD),_,_,rfl,rfl,_,rfl,?_⟩;refine 184
 .have c':=cW c;rw [au,lt] at c';refine⟨λσ H5=>∃(yf:z0q)(iB:z0h)(gh:87)(y4 y5:Option V),σ=[aE R,aE D,aE d,some (.int (aL.length:Int)),y4,y5]/\Dz K aa H H5 D d yf iB gh/\aL.length<=iB.length/\(iB.length=aL.length->qz aa aa.length iB),?_,?_⟩
  .rintro σ H6 ⟨yf,iB,gh,y4,y5,rfl,S2,l2,c2⟩;have:=S2.emp.len;exact⟨(aa.length+1 - aL.length:Int).toNat,∅,yf,iB,gh,_,_,_,rfl,S2,∅,∅,λz=>c2 ∅,∅⟩
  refine⟨_,rfl,D,_,rfl,.inl (aI.of S.hD),?_⟩;rw [au,lt];refine⟨_,rfl,R,_,rfl,S.sm.seq hR,?_⟩;refine k0 (xs:=138) (λi σ H6=>∃(yf:z0q)(iB:z0h)(gh:87)(y4 y5:Option V),σ=[aE R,aE D,aE d,some (.int (aL.length:Int)),y4,y5]/\Dz K aa H H6 D d yf iB gh/\aL.length<=iB.length/\(iB.length=aL.length->qz aa i iB))
   ⟨ts,aL,kvs,_,_,rfl,S,aG _,λ_ ru iq=>by simp at iq⟩ ?_ ?_ ?_
  .rintro i σ H6 _ ⟨yf,iB,gh,y4,y5,rfl,S2,_⟩;exact S2.sm.seq hR
  .rintro i x σ H6 t ex ⟨yf,iB,gh,y4,y5,rfl,S2,l2,c2⟩ ht
   ac_nf0
   rw [a0] at ex;obtain⟨r,er,rfl⟩:=b0.mp ex;obtain⟨ru,e1,p,v1,v2⟩:=cI.get er;have OW:=h8 ru (cC e1);have S3:=S2.same (af ht (.tup [149,.ref r]));have Qb:aY K (upd H6 t (.tup [149,.ref r])) t [149,.ref r]:=aY.of ae;generalize upd H6 t (.tup [149,.ref r])=H7 at S3 Qb;obtain⟨lt2,U9⟩:=S3.len;have el2:=S3.emp.len;have tk:aa.take (i+1)=aa.take i++[ru]:=by rw [cO,e1];rfl
   have kM:(¬((∀p∈ru.2,p∈iB.map 82)/\ru.1∉iB.map 82))->(iB.length=aL.length->qz aa (i+1) iB):=λhn z A2 sW hp=>by
    rw [tk] at sW;rcases bO.mp sW with h | h
    .exact c2 z A2 h hp
    rw [bA.mp h] at hp ⊢;exact Classical.byContradiction λhc=>hn ⟨hp,hc⟩
   refine⟨t,_,rfl,Qb,rfl,_,_,rfl,_,_,rfl,rfl,?_⟩;refine⟨_,rfl,r,_,_,_,rfl,rfl,S3.sm.tup v1,rfl,?_⟩;refine⟨_,rfl,d,_,rfl,cg.k (k:=Sum.inr ru.1) S3.hd,_,rfl,?_⟩;refine cf (λc3=>?_) (λc3=>?_)
   .have nm:ru.1∉iB.map 82:=λh=>by rw [(S3.mem _).mpr h] at c3;exact absurd c3 nofun
    refine⟨_,rfl,r,_,_,_,rfl,rfl,S3.sm.tup v1,rfl,p,rfl,⟨_,S3.sm.tup v2⟩,λD2 jI=>vJ rfl (S3.sm.tup v2) ∅ S3.hd jI λH8 PV SY=>?_⟩;have S4:=S3.same PV;refine⟨D2,_,rfl,aI.of SY,_,rfl,?_⟩;refine cf (λc4=>?_) (λc4=>?_)
    .have al:∀x∈ru.2,x∈iB.map 82:=λx hx=>(S4.mem x).mp (eG.mp c4 _ (iw hx));refine⟨_,rfl,_,rfl,r,_,_,_,rfl,rfl,S4.sm.tup v1,rfl,d,_,rfl,jX.k (k:=Sum.inr ru.1) S4.hd (bB ∅),?_⟩;have v1':aY K (upd H8 d (.dK (bQ gh (Sum.inr ru.1) (.bl true)))) r [.str ru.1,.ref p]:=ij S4.hd (S4.sm.tup v1);have OU:upd H8 d (.dK (bQ gh (Sum.inr ru.1) (.bl true))) D=some (.lst (yf.map V.ref)):=by rw [aj (λz=>by have:=S4.hD;rw [z,S4.hd] at this;cases this)];exact S4.hD
     refine⟨_,rfl,.inl ⟨rfl,_,aI.of OU⟩,_,rfl,r,_,_,_,rfl,rfl,v1',rfl,_,rfl,qi,λt2 jH=>?_⟩;refine⟨D,_,_,rfl,rfl,(by rw [aj (aC OU jH)];exact OU),176,?_⟩;have S5:=S4.more hD vp e1 nm al jH;exact⟨yf++[t2],iB++[(ru.1,i)],_,_,_,rfl,S5,by rw [a8];omega,λz=>by rw [a8] at z;simp at z;omega⟩
    refine⟨yf,iB,gh,_,_,rfl,S4,l2,kM λ⟨ha,_⟩=>c4 (eG.mpr λb hb=>?_)⟩;obtain⟨x,hx,rfl⟩:=bY.mp hb;exact(S4.mem x).mpr (ha x hx)
   refine⟨yf,iB,gh,_,_,rfl,S3,l2,kM λ⟨_,hn⟩=>c3 ?_⟩;cases hq:(aZ gh (Sum.inr ru.1)).isSome with
   | true=>exact absurd ((S3.mem _).mp hq) hn
   | false=>rfl
  rintro σ H6 ⟨yf,iB,gh,y4,y5,rfl,S2,l2,c2⟩;rw [au,bc cI] at c2;exact⟨yf,iB,gh,_,_,rfl,S2,l2,c2⟩
 have c':=of_decide_eq_false (ro.mpr c);rw [au,lt] at c';exact⟨_,rfl,q D ts aL H5 hD S.sm S.hD S.ev S.emp (cl ∅)⟩
end
end g9
namespace M11
open PySem L2
def uE (b:Str->Bool):z0t->Nat
 | []=>0
 | z::r=>if b z=true then uE b r+1 else 1
theorem Dd (b:Str->Bool):∀zs:z0t,(∀z∈zs,b z=true)->uE b zs=zs.length
 | [],_=>rfl
 | z::r,h=>by
  unfold uE;rw [aw (h z cR),Dd b r λx hx=>h x (cS _ hx)];rfl
theorem II (b:Str->Bool):∀(zs:z0t) (i:Nat)(z:Str),(∀x∈zs.take i,b x=true)->zs[i]?=some z->¬b z=true->uE b zs=i+1
 | y::r,0,z,_,e,n=>by
  cases e;unfold uE;rw [ar n]
 | y::r,i+1,z,h,e,n=>by
  unfold uE;rw [aw (h y (by rw [rD];exact cR)),II b r i z (λx hx=>h x (by rw [rD];exact cS _ hx)) e n]
theorem BQ (b:Str->Bool):∀zs:z0t,uE b zs<=zs.length
 | []=>aG _
 | z::r=>by
  have:=BQ b r;unfold uE;rw [dI]
  split <;> omega
def cnt (n:Nat):List V:=(List.range n).map λk:Nat=>V.int (k:Int)
end M11
namespace g9
open PySem L2 M11
section
def Cw (K:bp):Sp:=λvs H Q _=>∃(R:Addr)(rs:z0q)(aa:83),vs=[.ref R]/\aI K H R 146/\bK K H rs aa/\aa.length<=1000/\198/\(aa.flatMap (·.2)).Nodup /\
 ∀H',aD H H'->Q .d0 H'
def nK:aK ["strengths","met","way","words","word"] ["strengths"] (ay AL):=152
def Hi (F:ir K "refuse_twice" "refuse_twice" AL f fd)(T:Txt mg):bR P w K mg base fK 1 f fd ["strengths"] (Cw K):=by
 refine F.ok nK 157 161
 .obtain⟨R,rs,aa,rfl,_⟩:=h;rfl
 obtain⟨R,rs,aa,rfl,hR,cI,bN,h8,Vj,q⟩:=h;have hu:=fY hr;refine⟨_,ai (az (i:=1) nK.nd rfl 84 fR)
  (ao (bJ bV rfl (aR (pv 0)) (gq rfl (aB (aq (i:=2) nK.nd rfl 84) (aB (aq (i:=3) nK.nd rfl 84) bH)))
   (ao (bJ bV rfl (eV (pv 3)) (aq (i:=4) nK.nd rfl 84)
    (ai (cq (fw (kQ hu (pv 4) (pv 1))) (ao iO) a7) (ao (fC hu (pv 1) (pv 4) fq rfl))))))),?_⟩
 nofun
 intro e he;have CJ:∀o,aD H (upd H e o):=λo=>af he o;have ll:=bc cI
 let yd:t_:=λi σ H5=>∃(kvs:87)(y3 y4 y5:Option V),σ=[aE R,aE e,y3,y4,y5]/\H5=upd H e (.dK kvs) /\
  kvs.map 82=((aa.take i).flatMap (·.2)).map Sum.inr
 refine⟨_,rfl,R,rfl,⟨_,(CJ _).seq hR⟩,bP (xs:=138) yd ⟨[],none,none,none,rfl,rfl,rfl⟩ ?_ ?_ ?_⟩
 .rintro i σ H5 _ ⟨kvs,y3,y4,y5,rfl,rfl,_⟩;exact(CJ _).seq hR
 .rintro i x σ H5 ex ⟨kvs,y3,y4,y5,rfl,rfl,hk⟩
  ac_nf0
  rw [a0] at ex;obtain⟨r,er,rfl⟩:=b0.mp ex;obtain⟨ru,e1,p,v1,v2⟩:=cI.get er;have li:=(bw.mp e1).1;have OW:=h8 ru (cC e1);have eT:(aa.take (i+1)).flatMap (·.2)=(aa.take i).flatMap (·.2)++ru.2:=by
   rw [cO,e1,rB];simp
  have lA:((aa.take i).flatMap (·.2)).length<=8 * i:=jD (aa.take i) i (by rw [dJ];omega) λru iq=>h8 ru (uN iq);have HU:((aa.take i).flatMap (·.2)++ru.2).Nodup:=by
   have e2:aa.flatMap (·.2)=((aa.take i).flatMap (·.2)++ru.2)++(aa.drop (i+1)).flatMap (·.2):=by
    rw [<-eT,<-rB,List.take_append_drop]
   rw [e2] at Vj;exact(iI.mp Vj).1
  refine⟨r,_,rfl,(CJ _).tup v1,rfl,_,_,rfl,_,_,rfl,rfl,?_⟩
  let E9:t_:=λj σ H6=>∃(kvs:87)(y5:Option V),σ=[aE R,aE e,some (.str ru.1),aE p,y5]/\H6=upd H e (.dK kvs) /\
   kvs.map 82=((aa.take i).flatMap (·.2)++ru.2.take j).map Sum.inr
  refine⟨_,rfl,p,rfl,⟨_,(CJ _).tup v2⟩,xN (xs:=ru.2.map V.str) E9 ⟨kvs,_,rfl,rfl,by rw [List.take_zero,d_];exact hk⟩ ?_ ?_ ?_⟩
  .rintro j σ H6 _ ⟨kvs,y5,rfl,rfl,_⟩;exact(CJ _).tup v2
  .rintro j x σ H6 iH ⟨kvs,y5,rfl,rfl,EB⟩
   ac_nf0
   rw [a0] at iH;obtain⟨z,ez,rfl⟩:=b0.mp iH;have lj:=(bw.mp ez).1;have eS:ru.2.take (j+1)=ru.2.take j++[z]:=by rw [cO,ez];rfl
   have lk:kvs.length<=8 * i+8:=by
    have h1:=congrArg List.length EB;rw [au,au,a8,dJ] at h1;omega
   have nz:z∉(aa.take i).flatMap (·.2)++ru.2.take j:=λhz=>by
    have e3:(aa.take i).flatMap (·.2)++ru.2=((aa.take i).flatMap (·.2)++ru.2.take j)++([z]++ru.2.drop (j+1)):=by
     rw [iu,<-iu (ru.2.take j),<-eS,List.take_append_drop]
    rw [e3] at HU;exact(iI.mp HU).2.2 z hz z 135 rfl
   have nk:¬(88:aN)∈kvs.map 82:=by rw [EB];exact λh=>nz (de.mp h)
   refine⟨_,rfl,_,rfl,e,_,rfl,cg.k (k:=88) ae,_,rfl,?_⟩;refine cf (λc=>absurd ((eQ kvs _).mp c) nk) (λ_=>?_);refine⟨_,rfl,_,rfl,e,_,rfl,jX.k (k:=88) ae (bB ∅),?_⟩;refine⟨bQ kvs 139 (.bl true),_,rfl,by rw [nu],?_⟩;rw [i0 nk,EB,eS,<-iu];simp only [bj,cD,ml]
  rintro σ H6 ⟨kvs,y5,rfl,rfl,EB⟩;rw [au,cw,<-eT] at EB;exact⟨kvs,_,_,_,rfl,rfl,EB⟩
 rintro σ H5 ⟨kvs,y3,y4,y5,rfl,rfl,hk⟩;exact q _ (CJ _)
def yy (K:bp):Sp:=λvs H Q _=>∃(p d:Addr) (zs:z0t)(kvs:87),vs=[.ref p,.ref d]/\aY K H p (148)/\zs.length<=1000/\H d=162 /\
 ∀D H',H D=none->aD H H'->H' D=some (.lst (cnt (uE (λz=>(aZ kvs 139).isSome) zs)))->Q (.ref D) H'
def nN:aK ["parts","empty","places","place","part"] ["parts","empty"] (ay xc):=152
def D0 (F:ir K "first_places" "first_places" xc f fd)(T:Txt mg):bR P w K mg base fK 1 f fd ["parts","empty"] (yy K):=by
 refine F.ok nN 157 161
 .obtain⟨p,d,zs,kvs,rfl,_⟩:=h;rfl
 obtain⟨p,d,zs,kvs,rfl,hp,hz,hd,q⟩:=h;have hu:=fY hr;refine⟨_,ai (az (i:=2) nN.nd rfl 84 (bM ak))
  (ai (bJ bV rfl (nX rfl T.Lv (ab (pv 0) ak)) (gq rfl (aB (aq (i:=3) nN.nd rfl 84) (aB (aq (i:=4) nN.nd rfl 84) bH)))
   (ai (cT (gX gw ix iz cv (pv 2) (ab (pv 3) ak)))
   (ao (cq (fw (dC hu (pv 4) (pv 1))) (ao GX) a7))))
  (ao (br (pv 2)))),?_⟩
 nofun
 refine⟨uo,λD hD=>?_⟩;have up1:∀n,cnt n++[V.int (n:Int)]=cnt (n+1):=λn=>by
  unfold cnt;rw [List.range_succ,bj];rfl
 refine⟨_,rfl,p,_,rfl,(af hD _).tup hp,?_⟩
 let Ur:t_:=λi σ H5=>∃(y3 y4:Option V),σ=[aE p,aE d,aE D,y3,y4]/\aD H H5/\H5 D=some (.lst (cnt i))/\∀z∈zs.take i,(aZ kvs 139).isSome=true
 refine pG (xs:=148) Ur
  ⟨none,none,rfl,af hD _,ae,85⟩ ?_ ?_ ?_
 .rintro i σ H5 _ ⟨y3,y4,rfl,sm,_⟩;exact sm.tup hp
 .rintro i x σ H5 t ex ⟨y3,y4,rfl,sm,S_,qt⟩ ht
  ac_nf0
  rw [a0] at ex;obtain⟨z,ez,rfl⟩:=b0.mp ex;have li:=(bw.mp ez).1;have jn:=sm.trans (af ht (.tup [149,.str z]));have jI:upd H5 t (.tup [149,.str z]) D=some (.lst (cnt i)):=by rw [aj (aC S_ ht)];exact S_
  have hv:aY K (upd H5 t (.tup [149,.str z])) t [149,.str z]:=aY.of ae;generalize upd H5 t (.tup [149,.str z])=H6 at jn jI hv;have PX:aD H (upd H6 D (.lst (cnt i++[V.int (i:Int)]))):=λb o hb=>by
   rw [203];exact jn b o hb
  refine⟨t,_,rfl,hv,rfl,_,_,rfl,_,_,rfl,rfl,?_⟩;refine⟨_,rfl,.inl ⟨rfl,_,aI.of jI⟩,_,rfl,D,_,_,rfl,rfl,jI,bB (by unfold cnt;rw [au,qT];omega),?_⟩;refine⟨_,rfl,_,rfl,d,_,rfl,cg.k (k:=88) (PX _ _ hd),_,rfl,?_⟩;refine 184
  .refine⟨_,rfl,q D _ hD PX ?_⟩;rw [ae,up1,II _ zs i z qt ez (λh=>by rw [h] at c;exact absurd c nofun)]
  refine⟨_,_,rfl,PX,by rw [ae,up1],λx hx=>?_⟩;rw [cO,ez] at hx;rcases bO.mp hx with h | h
  .exact qt x h
  rw [Option.toList_some,bA] at h;subst h;cases hq:(aZ kvs (Sum.inr x)).isSome with
  | true=>rfl
  | false=>exact absurd (by rw [hq];rfl) c
 rintro σ H5 ⟨y3,y4,rfl,sm,S_,qt⟩;rw [au] at S_ qt;rw [cw] at qt;exact⟨_,rfl,q D _ hD sm (by rw [Dd _ zs qt];exact S_)⟩
end
end g9
namespace L2
open PySem
section
variable {prog:Program}{w:World}{K:Type} [DecidableEq K] {knd:KeyKind prog w K}{A:Around}{E:z0b}
def uG {s:Shared}{d l:Addr}{items:z0l}{n:Nat}{kvs more:List (K×Value)}{Q:z0b}(hh:A.handled=none)(vp:s.heap.DictOf knd d kvs)(hx:s.heap.get? l=some { cls:=.type "list",data:=.seq items n })
  (hi:items.size=more.length)(hp:∀(m:Nat) kv,more[m]?=some kv->∃u,items[m]?=some u/\m_ knd s.heap u kv)(hz:kvs.length+more.length<=sizeLine)
  (h:∀h' t',h'.DictOf knd d (more.foldl (λa p=>stored a p.1 p.2) kvs)->(∀b o,b≠d->158->h'.get? b=some o)->Q .none { s with heap:=h',toks:=t' }) :
  wpAny 150 A (call (.builtin "dict.update") [.ref d,.ref l]) Q E s:=by
 refine ki (wk Aq.plain PySem.F.entry_dict_update (Aq.check _ _ _ _ _ _ _ _ vp.typeIs (PySem.F.args_dict_update_2 _ _) ?_));unfold Builtin.«dict.update»;refine aA ?_;unfold Builtin.Dict.selfAndRest;refine aA (wt vp.typeIs ?_);show wpAny _ _ (pure (d,[Value.ref l])) _ _ s;refine aH ?_;show wpAny _ _ (Builtin.Dict.updateFrom "dict.update" d (.ref l) [] .none) _ _ s;unfold Builtin.Dict.updateFrom;refine aA (i7 (T := "list") ⟨_,hx,rfl⟩ ?_);rw [aw AA];refine aA (pC hx hh λh1 t1 k1=>?_);refine aA (kj ?_);have l1:=k1 _ _ hx;refine aA (oP ⟨_,l1,rfl,_,rfl⟩ ?_);have k2:∀b o,158->(h1.push { cls:=.type "list_iterator",data:=.fields #[.ref l,.int 0 0] }).get? b=some o:=λb o q=>b9 _ (k1 _ _ q);refine aH ⟨kr f_ _,IU (knd:=knd) (A:=A) (l:=l) (items:=items) hh more 0 _ kvs _ _ (by rw [hi,oH]) ?_ ⟨_,dA _ rfl,rfl,rfl⟩ ⟨_,k2 _ _ hx,rfl,n,rfl⟩ (λm kv e=>?_) hz λh' t' hd k3=>?_⟩
 .obtain⟨o,es,ep,q,r⟩:=vp;exact⟨o,es,ep,k2 _ _ q,r⟩
 .obtain⟨u,e1,e2⟩:=hp m kv e;exact⟨u,by rw [oH];exact e1,e2.keep λb o _ q=>k2 b o q⟩
 exact h h' t' hd λb o n q=>k3 b o n (bU (bC (k1 _ _ q))) (k2 b o q)
end
section
variable {X:Cx}{o e:Expr}{apos gZ:Pos}{td ty:TE}
def Q2 (K:bp)(td ty:TE):TE:=λσ H Q=>td σ H λx H1=>∃a,x=.ref a/\V7 H1 a/\ty σ H1 λy H2=>∃l ts kvs more,y=.ref l/\H2 a=162/\H2 l=some 163 /\
 Paired (λt kv=>aY K H2 t [kV kv.1,kv.2]) ts more/\kvs.length+more.length<=sizeLine/\Q .d0 (upd H2 a (.dK (di more kvs)))
def Ks (hc:X.calm=true)(ho:PE X o td)(he:PE X e ty)(m:M1 X o "update" apos e gZ):PE X (.Call (.Attribute o "update" apos) [e] [] gZ) (Q2 X.K td ty):=by
 intro ag s σ H Q I h;refine wpAny_Call_method m.base m.qO m.line An Aq PySem.F.type_dict_update (dB (ho ag s σ H _ I h) λu s1 bI=>?_);obtain⟨x,H1,I1,rx,a,ex,d,q1⟩:=bI;subst ex;obtain rfl:u=Value.ref a:=rx;obtain⟨t1,t2,_⟩:=BD I1 d;refine⟨t1,t2,?_⟩;rw [m.trees];refine rG rfl (wc (oS (dB (he ag s1 σ H1 _ I1 q1) λiv s2 bI=>?_)));obtain⟨y,H2,I2,ry,l,ts,kvs,more,ey,ea,el,p,hz,q2⟩:=bI;refine Calls.spliced_nil ?_;subst ey;cases (show iv=Value.ref l from ry);obtain⟨z,qo,vs,rel,dd⟩:=vF I2.cu ea;obtain⟨z2,aT,n,rv,hl⟩:=(show cP X.prog X.w H2 s2.heap l (.lst _) from I2.cu l _ el);obtain⟨ms,r1,r2⟩:=pairs_at I2 p rv;have l1:=bc r2;have l2:=r1.length;have l3:=bc p;refine uG (I2.ok.hd hc) dd hl (by simpa using l1) (λm kv em=>?_) (by rw [<-rel.length,<-l2];exact hz) λh' t' hd kk=>?_
 .obtain⟨u,e1,e2⟩:=Paired.at_ r2 m kv em;exact⟨u,by simpa using e1,e2⟩
 have hn:(di more kvs).length<=sizeLine:=gr (tG more kvs) hz;have he:∃q,h'.get? a=some q:=let ⟨q,_,_,hq,_⟩:=hd;⟨q,hq⟩;exact⟨.d0,_,I2.write (x:=a) (e:=a) (by rw [ea];exact True.intro) (.inl rfl) (λb q hb z=>kk b q hb z) he (tM hn qo (tF r1 rel) hd),rfl,q2⟩
def vM {X:Cx}:iV X (.builtin "len") (λxs H Q=>∃a kvs,xs=[.ref a]/\H a=162/\Q (.int kvs.length) H):=by
 intro ag s σ H xs us Q I r h;obtain⟨a,kvs,rfl,e,q⟩:=h;obtain⟨u,rfl,rx⟩:=vals1 r;cases (show u=Value.ref a from rx);exact TV I (.inl e) λt s' I'=>⟨.int _,H,I',⟨_,rfl⟩,q⟩
end
theorem ze:∀{us:z0n}{ns:z0u},PyProof.Rows.IntsAre us ns->∀ys:List (Int×Tok),us=ys.map (λp=>Value.int p.1 p.2)->ys.map 82=ns
 | _,_,.nil,ys,e=>by
  cases ys with
  | nil=>rfl
  | cons _ _=>cases e
 | _,_,.cons n t h,ys,e=>by
  cases ys with
  | nil=>cases e
  | cons y r =>
   rw [cD] at e;injection e with e1 e2;injection e1 with e3 e4;rw [cD,ze h r e2,e3]
def lJ {X:Cx}(hc:X.calm=true):iV X (.builtin "sum") (λxs H Q=>∃a ns,xs=[.ref a]/\aI X.K H a (List.map V.int ns)/\Q (.int ns.sum) H):=by
 intro ag s σ H xs us Q I r h;obtain⟨a,ns,rfl,hq,q⟩:=h;obtain⟨u,rfl,rx⟩:=vals1 r;cases rx;obtain⟨aT,rv,pl,hz⟩:=I.list hq;have hi:=intsAre_of rv;have qt:AllInts aT.toArray:=hi.allInts;obtain⟨xs,e⟩:=qt.items;have hl:=pl.isList;rw [e] at hl;refine sum_intListG (I.ok.hd hc) hl λh' tk t' hk=>⟨.int _,H,I.kept hk,⟨_,rfl⟩,?_⟩;have e5:xs.toList.map 82=ns:=ze hi xs.toList (by
  have:=congrArg Array.toList e;simpa [intItems] using this)
 have e6:preSum (numAt xs) xs.size=ns.sum:=by
  rw [preSum_eq,e5,rJ (by rw [<-e5];simp)]
 rw [e6];exact q
def zD {K:bp}{H:Hp}{p D:Addr}{zs:z0t}{σ:St}{v:V}{x:Str}{Qp:Hp->Prop}(hp:aY K H p (148))(hz:zs.length<=1000)(hD:H D=none)
  (q:∀ts H2,aD H H2->H2 D=some 163->Paired (λt h=>aY K H2 t [.str h,v]) ts zs->Qp H2) :
  ∃W:183,(∃m,W 0 m [] (dO [x] [] σ) 179) /\
 ∀i m ys σ' H,W i m ys σ' H->((oy K p).stop i H/\Qp H)\/((oy K p).go i H/\∃m',m' < m/\∀x H',(oy K p).lS i H x H'->dD 0 x σ' H' λσ2 H2=>hV σ2 H2 λb H3 =>
  if b=true then uu (gQ (gK 0) (gQ (tC v) qj)) σ2 H3 182 else W (i+1) m' ys σ2 H3):=by
 refine gI (xs:=148) (λi ys σ2 H2=>∃ts:z0q,ys=ts.map V.ref/\ts.length=i/\Paired (λt h=>aY K H2 t [.str h,v]) ts (zs.take i)/\(∃y0,σ2=[y0])/\aD H H2/\H2 D=some (.lst ys))
  ⟨[],rfl,rfl,.nil,⟨none,rfl⟩,af hD _,ae⟩ (λi ys σ2 H2 _ h=>?_) (λi x ys σ2 H2 ex h=>?_) (λys σ2 H2 h=>?_)
 .obtain⟨_,_,_,_,_,sm,_⟩:=h;exact sm.tup hp
 .obtain⟨ts,rfl,ht,jT,⟨y0,rfl⟩,sm,hd⟩:=h;rw [a0] at ex;obtain⟨z,ez,rfl⟩:=b0.mp ex;have li:=(bw.mp ez).1;refine goN (vq ?_);refine⟨_,rfl,qi,λt jH=>⟨?_,176,ts++[t],?_,?_,?_,⟨_,rfl⟩,?_,ae⟩⟩
  .rw [aj (aC hd jH)];exact hd
  .rw [bj];rfl
  .rw [a8,ht];rfl
  .rw [cO,ez];have iW:upd H2 t (.tup [.str z,v]) D=some 163:=by rw [aj (aC hd jH)];exact hd
   exact gk (Paired.b_ jT λt' h' z=>bz iW ((af jH _).tup z)) (bz iW (aY.of ae))
  intro b o hb;rw [203];exact af jH _ _ _ (sm b o hb)
 obtain⟨ts,rfl,ht,jT,_,sm,hd⟩:=h;rw [au,cw] at jT;exact q ts H2 sm hd jT
end L2
namespace M11
open PySem L2
def jF (a:z0t)(h x:Str):x∈gM a h↔x∈a\/x=h:=by
 unfold gM;split
 .constructor
  .exact .inl
  rintro(z | rfl) <;> assumption
 simp
def qS {a:z0t}(h:Str)(n:a.Nodup):(gM a h).Nodup:=by
 unfold gM;split
 .exact n
 rename_i q
 refine iI.mpr ⟨n,85,λx hx y hy=>?_⟩;rw [bA.mp hy];exact λz=>q (z ▸ hx)
def Ds (a:z0t)(h:Str):a.length<=(gM a h).length:=by
 unfold gM;split <;> simp
def LN {a:z0t}{h:Str}(e:(gM a h).length=a.length):gM a h=a:=by
 unfold gM at e ⊢;split
 .rfl
 rename_i q
 rw [ar q,a8] at e;simp at e
theorem ig:∀(hs bX:z0t)(x:Str),x∈xS bX hs↔x∈bX\/x∈hs
 | [],bX,x=>by simp [xS]
 | h::r,bX,x=>by
  show x∈xS (gM bX h) r↔_;rw [ig r,jF,b8,or_assoc]
theorem pI:∀(hs:z0t){bX:z0t},bX.Nodup->(xS bX hs).Nodup
 | [],_,n=>n
 | h::r,_,n=>pI r (qS h n)
theorem B5:∀(hs bX:z0t),bX.length<=(xS bX hs).length
 | [],_=>aG _
 | h::r,bX=>gr (Ds bX h) (B5 r _)
theorem IW:∀(hs bX:z0t),(xS bX hs).length=bX.length->xS bX hs=bX
 | [],_,_=>rfl
 | h::r,bX,e=>by
  have h1:=Ds bX h;have h2:=B5 r (gM bX h);have e':(xS (gM bX h) r).length=bX.length:=e;show xS (gM bX h) r=bX;rw [IW r _ ∅];exact LN ∅
inductive PH (aa:83)(s:Str):Str->Prop
 | start:PH aa s s
 | step {ru:ax}{x:Str}:PH aa s ru.1->ru∈aa->x∈ru.2->PH aa s x
def E8 (aa:83) (n:Nat) (ms:z0t):Prop:=∀ru∈aa.take n,ru.1∈ms->∀x∈ru.2,x∈ms
def PH.among {aa:83}{s x:Str}(h:PH aa s x):x∈s::aa.flatMap (·.2):=by
 cases h with
 | start=>exact cR
 | step _ h1 h2=>exact cS _ (jh.mpr ⟨_,h1,h2⟩)
end M11
namespace g9
open PySem L2 M11
section
def Md (K:bp):Sp:=λvs H Q _=>∃(R:Addr)(rs:z0q)(aa:83)(i_:ax),vs=[.ref R]/\aI K H R 146/\bK K H rs aa/\aa[0]?=some i_/\aa.length<=1000/\198 /\
 ∀d kvs ms H',H d=none->aD H H'->H' d=162->kvs.map 82=ms.map Sum.inr->i_.1∈ms->(∀x∈ms,PH aa i_.1 x)->E8 aa aa.length ms->Q (.ref d) H'
def u7:aK ["rules","met","many","head","parts"] ["rules"] (ay NC):=152
structure QD (K:bp)(aa:83)(s0:Str)(H H5:Hp)(d:Addr) (ms:z0t)(kvs:87):Prop where
 sm:aD H H5
 hd:H5 d=162
 keys:kvs.map 82=ms.map Sum.inr
 nd:ms.Nodup
 st:s0∈ms
 UZ:∀x∈ms,PH aa s0 x
def QD.len {aa:83}{s0:Str}{H H5:Hp}{d:Addr}{ms:z0t}{kvs:87}(h:QD K aa s0 H H5 d ms kvs)(hl:aa.length<=1000)(h8:∀ru∈aa,ru.2.length<=8):kvs.length=ms.length/\ms.length<=8001:=by
 refine⟨?_,?_⟩
 .have:=congrArg List.length h.keys;simpa using this
 have h1:=iF ms _ h.nd λx hx=>(h.UZ x hx).among;have h2:=jD aa 1000 hl h8;rw [dI] at h1;omega
def Oa (F:ir K "names_met" "names_met" NC f fd)(T:Txt mg):bR P w K mg base fK 1 f fd ["rules"] (Md K):=by
 refine F.ok u7 157 161
 .obtain⟨R,rs,aa,i_,rfl,_⟩:=h;rfl
 obtain⟨R,rs,aa,i_,rfl,hR,cI,Lb,bN,h8,q⟩:=h;have hu:=fY hr;refine⟨_,ai (az (i:=1) u7.nd rfl 84 (Kt (G1 (ba bE (ba cU (pv 0) av 137) av 137) fq Km) rfl rfl 135 (show 1<=15 by decide)))
  (ai (az (i:=2) u7.nd rfl 84 av)
  (ai (ip bV (a_ lV (pv 2) (aP vM rfl T.len ff (ab (pv 1) ak)) (cx _))
   (ai (az (i:=2) u7.nd rfl 84 (aP vM rfl T.len ff (ab (pv 1) ak)))
   (ao (bJ bV rfl (aR (pv 0)) (gq rfl (aB (aq (i:=3) u7.nd rfl 84) (aB (aq (i:=4) u7.nd rfl 84) bH)))
    (ao (cq (fw (kQ hu (pv 3) (pv 1)))
     (ao (cT (Ks rfl (pv 1) (aV ["part"] [] rfl (eV (pv 4)) (aS rfl rfl) nofun rfl nofun
       (λ_ _ _ _ _=>aq (i:=0) (show (["part"]:z0t).Nodup by decide +kernel) rfl 84) 177 (λ_ _ _ _ _=>bW (ab (pv 0) (ab fq ak)))) ⟨rfl,rfl,rfl,rfl⟩))) a7))))))
  (ao (br (pv 1))))),?_⟩
 nofun
 intro d hd;have ll:=bc cI;have l0:=(bw.mp Lb).1;obtain⟨r0,VF⟩:∃r,rs[0]?=some r:=⟨rs[0]'∅,df ∅⟩;obtain⟨aau,e0,p0,w1,w2⟩:=cI.get VF;rw [Lb] at e0;cases e0;have sm0:=af hd (.dK []);refine⟨_,rfl,R,_,_,.ref r0,rfl,rfl,sm0.seq hR,?_,r0,_,_,_,rfl,rfl,sm0.tup w1,rfl,?_⟩
 .have e7:146[0]?=some (.ref r0):=by rw [a0,VF];rfl
  exact cK (j:=0) e7
 refine⟨ae,[((Sum.inr i_.1:aN),.bl true)],rfl,(by show 1<=15;decide),?_⟩;have S0:QD K aa i_.1 H (upd (upd H d (.dK [])) d (.dK (mM [] [((Sum.inr i_.1:aN),.bl true)]))) d [i_.1] [((Sum.inr i_.1:aN),.bl true)]:=by
  rw [nu];exact⟨af hd _,ae,rfl,85,85,λx hx=>by rw [bA.mp hx];exact .start⟩
 generalize upd (upd H d (.dK [])) d (.dK (mM [] [((Sum.inr i_.1:aN),.bl true)]))=H0 at S0;refine⟨λm σ H5=>∃(ms:z0t)(kvs:87) (many:Int)(y3 y4:Option V),σ=[aE R,aE d,some (.int many),y3,y4]/\QD K aa i_.1 H H5 d ms kvs/\0<=many/\many<=ms.length/\(many=ms.length->E8 aa aa.length ms)/\(m:Int)=8002 - many,
  ⟨8002,[i_.1],_,0,none,none,rfl,S0,∅,85,85,∅⟩,?_⟩
 rintro m σ H5 ⟨ms,kvs,many,y3,y4,rfl,S,b1,b2,cl,em⟩;obtain⟨lk,lm⟩:=S.len bN h8;refine⟨_,rfl,_,rfl,d,_,rfl,S.hd,_,_,rfl,rfl,_,rfl,?_⟩;refine 184
 .have c':=cW c;rw [lk] at c';refine⟨λσ H5=>∃(qH:z0t)(gh:87)(y3 y4:Option V),σ=[aE R,aE d,some (.int (ms.length:Int)),y3,y4]/\QD K aa i_.1 H H5 d qH gh/\ms.length<=qH.length/\(qH.length=ms.length->E8 aa aa.length qH),?_,?_⟩
  .rintro σ H6 ⟨qH,gh,y3,y4,rfl,S2,l2,c2⟩;exact⟨(8002 - ms.length:Int).toNat,∅,qH,gh,_,_,_,rfl,S2,∅,∅,λz=>c2 ∅,∅⟩
  refine⟨_,rfl,d,_,rfl,S.hd,?_⟩;rw [lk];refine⟨_,rfl,R,rfl,⟨_,S.sm.seq hR⟩,?_⟩;refine bP (xs:=138) (λi σ H6=>∃(qH:z0t)(gh:87)(y3 y4:Option V),σ=[aE R,aE d,some (.int (ms.length:Int)),y3,y4]/\QD K aa i_.1 H H6 d qH gh/\ms.length<=qH.length/\(qH.length=ms.length->E8 aa i qH))
   ⟨ms,kvs,_,_,rfl,S,aG _,λ_ ru iq=>by simp at iq⟩ ?_ ?_ ?_
  .rintro i σ H6 _ ⟨qH,gh,y3,y4,rfl,S2,_⟩;exact S2.sm.seq hR
  .rintro i x σ H6 ex ⟨qH,gh,y3,y4,rfl,S2,l2,c2⟩
   ac_nf0
   rw [a0] at ex;obtain⟨r,er,rfl⟩:=b0.mp ex;obtain⟨ru,e1,p,v1,v2⟩:=cI.get er;have OW:=h8 ru (cC e1);have tk:aa.take (i+1)=aa.take i++[ru]:=by rw [cO,e1];rfl
   obtain⟨U9,lm2⟩:=S2.len bN h8;have mem:(aZ gh (Sum.inr ru.1)).isSome=true↔ru.1∈qH:=by rw [eQ,S2.keys];exact de
   refine⟨r,_,rfl,S2.sm.tup v1,rfl,_,_,rfl,_,_,rfl,rfl,?_⟩;refine⟨_,rfl,_,rfl,d,_,rfl,cg.k (k:=Sum.inr ru.1) S2.hd,_,rfl,?_⟩;refine cf (λc3=>?_) (λc3=>?_)
   .have im:=mem.mp c3;refine⟨_,rfl,d,rfl,.inl ⟨_,.inl S2.hd⟩,_,rfl,p,rfl,⟨_,S2.sm.tup v2⟩,λD2 jI=>zD (S2.sm.tup v2) ∅ jI λts H8 PV SY hp8=>?_⟩;have kp:Paired (λt (kv:aN×V)=>aY K H8 t [kV kv.1,kv.2]) ts (ru.2.map λh=>((Sum.inr h:aN),V.bl true)):=cY hp8 λ_ _ z=>z;refine⟨D2,ts,gh,_,rfl,PV _ _ S2.hd,SY,kp,fits (151),?_⟩;have aaF:=B5 ru.2 qH;refine⟨xS qH ru.2,di (ru.2.map λh=>((Sum.inr h:aN),V.bl true)) gh,_,_,rfl,⟨λb o hb=>?_,ae,n6 ru.2 gh qH S2.keys,pI ru.2 S2.nd,(ig ru.2 qH _).mpr (.inl S2.st),λx hx=>?_⟩,∅,λz A2 sW hh=>?_⟩
    .rw [aj (λz=>by rw [z,hd] at hb;cases hb)];exact PV _ _ (S2.sm b o hb)
    .rcases (ig ru.2 qH x).mp hx with h | h
     .exact S2.UZ x h
     exact .step (S2.UZ _ im) (cC e1) h
    have e9:=IW ru.2 qH ∅;rw [e9] at hh ⊢;rw [tk] at sW;rcases bO.mp sW with h | h
    .exact c2 ∅ A2 h hh
    rw [bA.mp h];intro x hx;rw [<-e9];exact(ig ru.2 qH x).mpr (.inr hx)
   refine⟨qH,gh,_,_,rfl,S2,l2,λz A2 sW hh=>?_⟩;rw [tk] at sW;rcases bO.mp sW with h | h
   .exact c2 z A2 h hh
   rw [bA.mp h] at hh;exact absurd (mem.mpr hh) c3
  rintro σ H6 ⟨qH,gh,y3,y4,rfl,S2,l2,c2⟩;rw [au,ll] at c2;exact⟨qH,gh,_,_,rfl,S2,l2,c2⟩
 have c':=of_decide_eq_false (ro.mpr c);rw [lk] at c';exact⟨_,rfl,q d kvs ms H5 hd S.sm S.hd S.keys S.st S.UZ (cl ∅)⟩
end
end g9
namespace M11
open PySem L2
abbrev G:=Str->z0p
def dN (g:G)(h:Str) (n:Int):G:=λz=>if z=h then some n else g z
def aM (g:G)(ru:ax):Int:=1+(ru.2.map λp=>(g p).getD 0).sum
def k_ (g:G)(ru:ax):Bool:=ru.2.all λp=>(g p).isSome
def cX (bt:Int->Int->Bool)(g:G)(ru:ax):Bool:=k_ g ru && (!(g ru.1).isSome || bt (aM g ru) ((g ru.1).getD 0))
def sstep (bt:Int->Int->Bool)(a:G×Bool)(ru:ax):G×Bool:=if cX bt a.1 ru=true then (dN a.1 ru.1 (aM a.1 ru),true) else a
def uv (bt:Int->Int->Bool)(aa:83)(g:G):G×Bool:=aa.foldl (sstep bt) (g,false)
inductive dY (bt:Int->Int->Bool)(aa:83):G->G->Prop
 | refl {g:G}:dY bt aa g g
 | step {g g1:G}{ru:ax}:dY bt aa g g1->ru∈aa->cX bt g1 ru=true->dY bt aa g (dN g1 ru.1 (aM g1 ru))
def iC (bt:Int->Int->Bool)(aa:83)(g:G):Prop:=∀ru∈aa,cX bt g ru=false
def pM (bt:Int->Int->Bool)(aa:83):Nat->G->Prop
 | 0,g=>(uv bt aa g).2=false
 | n+1,g=>(uv bt aa g).2=false\/pM bt aa n (uv bt aa g).1
def dY.trans {bt:Int->Int->Bool}{aa:83}{g g1 g2:G}(h:dY bt aa g g1)(k:dY bt aa g1 g2):dY bt aa g g2:=by
 induction k with
 | refl=>exact h
 | step _ a b ih=>exact .step ih a b
theorem tu (bt:Int->Int->Bool)(aa:83):∀(l:83)(a:G×Bool),(∀ru∈l,ru∈aa)->dY bt aa a.1 (l.foldl (sstep bt) a).1
 | [],a,_=>.refl
 | ru::l,a,h=>by
  have ih:=tu bt aa l (sstep bt a ru) λx hx=>h x (cS _ hx);refine dY.trans ?_ ih;unfold sstep;by_cases c:cX bt a.1 ru=true
  .rw [aw c];exact .step .refl (h ru cR) c
  rw [ar c];exact .refl
theorem vv (bt:Int->Int->Bool):∀(l:83)(a:G×Bool),a.2=true->(l.foldl (sstep bt) a).2=true
 | [],a,h=>h
 | ru::l,a,h=>by
  refine vv bt l (sstep bt a ru) ?_;unfold sstep
  split
  .rfl
  exact h
theorem tE (bt:Int->Int->Bool):∀(l:83)(a:G×Bool),(l.foldl (sstep bt) a).2=false->(l.foldl (sstep bt) a).1=a.1/\∀ru∈l,cX bt a.1 ru=false
 | [],a,_=>⟨rfl,λ_ h=>nomatch h⟩
 | ru::l,a,h=>by
  by_cases c:cX bt a.1 ru=true
  .have e:sstep bt a ru=(dN a.1 ru.1 (aM a.1 ru),true):=aw c;have h':(l.foldl (sstep bt) (sstep bt a ru)).2=false:=h;rw [e,vv bt l _ rfl] at h';cases h'
  have e:sstep bt a ru=a:=ar c;have h':(l.foldl (sstep bt) (sstep bt a ru)).2=false:=h;rw [e] at h';obtain⟨i1,i2⟩:=tE bt l a h';refine⟨by rw [List.foldl_cons,e];exact i1,λA2 hr=>?_⟩;rcases b8.mp hr with z | z
  .rw [z];exact ro.mpr c
  exact i2 A2 z
end M11
namespace L2
open PySem M11
def gB.tup {K:bp}{H H':Hp}{d a:Addr}{kvs:87}{xs:List V}(s:gB d H H')(hd:H d=162)(h:aY K H a xs):aY K H' a xs:=by
 rcases h with (h | ⟨u,h⟩) | h
 .exact .inl (.inl (s _ _ (λz=>by rw [z,hd] at h;cases h) h))
 .exact .inl (.inr ⟨u,s _ _ (λz=>by rw [z,hd] at h;cases h) h⟩)
 exact .inr h
def gB.seq {K:bp}{H H':Hp}{d a:Addr}{kvs:87}{xs:List V}(s:gB d H H')(hd:H d=162)(h:aI K H a xs):aI K H' a xs:=by
 rcases h with (h | ⟨u,h⟩) | h
 .exact .inl (.inl (s _ _ (λz=>by rw [z,hd] at h;cases h) h))
 .exact .inl (.inr ⟨u,s _ _ (λz=>by rw [z,hd] at h;cases h) h⟩)
 exact .inr h
def EV {K:bp}{H:Hp}{p D d:Addr}{zs:z0t}{kvs:87}{g:G}{σ:St}{js:z0j}{Qp:Hp->Prop}(hσ:dO ["part"] js σ=[none,aE d])(hp:aY K H p (148))(hz:zs.length<=1000)
  (hd:H d=162)(hv:∀z,aZ kvs 139=(g z).map V.int)(ha:∀z∈zs,(g z).isSome=true)(hD:H D=none)(q:∀H2,aD H H2->H2 D=some (.lst ((zs.map λz=>(g z).getD 0).map V.int))->Qp H2) :
  ∃W:183,(∃m,W 0 m [] (dO ["part"] js σ) 179) /\
 ∀i m ys σ' H,W i m ys σ' H->((oy K p).stop i H/\Qp H)\/((oy K p).go i H/\∃m',m' < m/\∀x H',(oy K p).lS i H x H'->dD 0 x σ' H' λσ2 H2=>hV σ2 H2 λb H3 =>
  if b=true then Cp (gK 1) (gK 0) σ2 H3 182 else W (i+1) m' ys σ2 H3):=by
 refine gI (xs:=148) (λi ys σ2 H2=>ys=(((zs.take i).map λz=>(g z).getD 0).map V.int)/\(∃y0,σ2=[y0,aE d])/\aD H H2/\H2 D=some (.lst ys))
  ⟨rfl,⟨none,hσ⟩,af hD _,ae⟩ (λi ys σ2 H2 _ h=>h.2.2.1.tup hp) (λi x ys σ2 H2 ex h=>?_) (λys σ2 H2 h=>?_)
 .obtain⟨rfl,⟨y0,rfl⟩,sm,hd2⟩:=h;rw [a0] at ex;obtain⟨z,ez,rfl⟩:=b0.mp ex;have li:=(bw.mp ez).1;obtain⟨n,en⟩:=nj.mp (ha z (cC ez));have hg:cg H2 d (.str z) (some (.int n)):=by
   have:=cg.k (k:=88) (sm _ _ hd);rw [hv,en] at this;exact this
  refine goN (vq ?_);refine⟨_,rfl,_,rfl,d,_,rfl,hg,hd2,bB (by rw [au,au,dJ];omega),?_,⟨_,rfl⟩,?_,ae⟩
  .rw [cO,ez,bj,bj];show _=_++[V.int ((g z).getD 0)];rw [en];rfl
  intro b o hb;rw [203];exact sm b o hb
 obtain⟨rfl,_,sm,hd2⟩:=h;rw [au,cw] at hd2;exact q H2 sm hd2
end L2
namespace g9
open PySem L2 M11
section
def iK (K:bp)(q:Str)(params:Arguments)(body:Expr)(scope:Scope)(bt:Int->Int->Bool):Sp:=λvs H Q _=>∃(R:Addr)(rs:z0q)(aa:83)(d fl c':Addr)(pm gL:Value)(kvs:87) (ks:z0t)(g:G),
 vs=[.ref R,.ref d,.ref fl]/\aI K H R 146/\bK K H rs aa/\aa.length<=1000/\198/\H d=162/\kvs.map 82=ks.map Sum.inr/\ks.Nodup/\ks.length<=10000 /\
 (∀z,aZ kvs 139=(g z).map V.int)/\(∃n,pM bt aa n g)/\H fl=some (px fl (PySem.W.kla_obj "<lambda>" q params body scope [] pm c' gL))/\H c'=some (j7 c' q) /\
 ∀(mQ:87) (R0:z0t)(g':G)(H':Hp),gB d H H'->H' d=some (.dK mQ)->mQ.map 82=R0.map Sum.inr->(∀z,aZ mQ 139=(g' z).map V.int)->dY bt aa g g'->iC bt aa g'->mQ.length<=20000->Q (.ref d) H'
def iL:aK ["rules","sizes","better","changed","head","parts","size"] ["rules","sizes","better"] (ay nR):=152
structure Fw (K:bp)(aa:83) (JA:z0t)(H H5:Hp)(d:Addr)(kvs:87) (ks:z0t)(g:G):Prop where
 sm:gB d H H5
 hd:H5 d=162
 keys:kvs.map 82=ks.map Sum.inr
 nd:ks.Nodup
 sub:∀x∈ks,x∈JA++aa.map 82
 val:∀z,aZ kvs 139=(g z).map V.int
def Fw.len {aa:83}{JA:z0t}{H H5:Hp}{d:Addr}{kvs:87}{ks:z0t}{g:G}(h:Fw K aa JA H H5 d kvs ks g):kvs.length<=JA.length+aa.length:=by
 have h1:=congrArg List.length h.keys;have h2:=iF ks _ h.nd h.sub;rw [a8,au] at h2;rw [au,au] at h1;omega
def Fw.same {aa:83}{JA:z0t}{H H5 H6:Hp}{d:Addr}{kvs:87}{ks:z0t}{g:G}(h:Fw K aa JA H H5 d kvs ks g)(s:aD H5 H6):Fw K aa JA H H6 d kvs ks g :=
 ⟨λb o n e=>s _ _ (h.sm b o n e),s _ _ h.hd,h.keys,h.nd,h.sub,h.val⟩
def Fw.put {aa:83}{JA:z0t}{H H5:Hp}{d:Addr}{kvs:87}{ks:z0t}{g:G}(h:Fw K aa JA H H5 d kvs ks g){ru:ax}(hr:ru∈aa) (n:Int) :
  Fw K aa JA H (upd H5 d (.dK (bQ kvs (Sum.inr ru.1) (.int n)))) d (bQ kvs (Sum.inr ru.1) (.int n)) (gM ks ru.1) (dN g ru.1 n):=by
 refine⟨λb o nb e=>by rw [aj nb];exact h.sm b o nb e,ae,iR h.keys ru.1,qS ru.1 h.nd,λx hx=>?_,λz=>?_⟩
 .rcases (jF ks ru.1 x).mp hx with z | z
  .exact h.sub x z
  rw [z];exact dM _ (iw hr)
 rw [rP];unfold dN;by_cases c:z=ru.1
 .rw [aw c,aw (by rw [c])];rfl
 rw [ar c,ar (λe=>c (kn e)),h.val]
def ve (F:ir K "settled_sizes" "settled_sizes" nR f fd)(T:Txt mg){q:Str}{params:Arguments}{body:Expr}{scope:Scope}{bt:Int->Int->Bool}{te:TE}(S:aK ["size","known"] ["size","known"] scope)
  (sZ:∀(pm gL:Value)(c':Addr)(us:z0n),us.length=(["size","known"]:z0t).length->bindArgs (PySem.W.kla_fn "<lambda>" q params body scope [] pm (.ref c') gL) ⟨us,[]⟩=pure ((["size","known"]:z0t).zip us))
  (jB:∀(f c':Addr)(A:Around)(outer:List Env)(s:Shared)(H:Hp),PE (pJ fK P w K mg base ["size","known"] q scope f (.ref c') A outer s H λ_ _ _=>False) body te)
  (Sj:∀a b H Q,Q (.bl (bt a b)) H->te [some (.int a),some (.int b)] H Q):bR P w K mg base fK 2 f fd ["rules","sizes","better"] (iK K q params body scope bt):=by
 refine F.ok iL 157 161
 .obtain⟨R,rs,aa,d,fl,c',pm,gL,kvs,ks,g,rfl,_⟩:=h;rfl
 obtain⟨R,rs,aa,d,fl,c',pm,gL,kvs,ks,g,rfl,hR,cI,bN,h8,hd,hk,Vj,hkl,hv,⟨n0,Vk⟩,Iu,mS,qq⟩:=h;have hu:=fY hr;refine⟨_,ai (az (i:=3) iL.nd rfl 84 fq)
  (ai (ip bV (gS (pv 3))
   (ai (az (i:=3) iL.nd rfl 84 fq)
   (ao (bJ bV rfl (aR (pv 0)) (gq rfl (aB (aq (i:=4) iL.nd rfl 84) (aB (aq (i:=5) iL.nd rfl 84) bH)))
    (ao (cq (gS (aP (dX rfl) rfl T.all boot_all (ab (aV ["part"] [(1,"sizes")] rfl (eV (pv 5)) (aS rfl rfl) nofun rfl nofun
       (λ_ _ _ _ _=>aq (i:=0) (show (["part","sizes"]:z0t).Nodup by decide +kernel) rfl 84) 177 (λ_ _ _ _ _=>xw (kQ hu (pv 0) (pv 1)))) ak)))
     (ai (az (i:=6) iL.nd rfl 84 (aQ dw av (aP (lJ rfl) rfl T.sum wy (ab (aV ["part"] [(1,"sizes")] rfl (eV (pv 5)) (aS rfl rfl) nofun rfl nofun
       (λ_ _ _ _ _=>aq (i:=0) (show (["part","sizes"]:z0t).Nodup by decide +kernel) rfl 84) 177 (λ_ _ _ _ _=>fI hu (pv 1) (pv 0) 137)) ak))))
     (ao (cq (PW.pt (GO (fw (dC hu (pv 4) (pv 1))) (GK (gS (A7 (i:=2) (k:=0) rfl rfl S hr sZ jB (ab (pv 6) (ab (fI hu (pv 1) (pv 4) 137) ak)))))))
      (ai (fC hu (pv 1) (pv 4) (pv 6) rfl) (ao (az (i:=3) iL.nd rfl 84 fq))) a7))) a7))))))
  (ao (br (pv 1)))),?_⟩
 nofun
 have ll:=bc cI;have S0:Fw K aa ks H H d kvs ks g:=⟨λ_ _ _ e=>e,hd,hk,Vj,λx hx=>eI _ hx,hv⟩;refine⟨λm σ H5=>∃(gh:87) (Aa:z0t)(g2:G)(ch:Bool)(y4 y5 y6:Option V),σ=[aE R,aE d,aE fl,some (.bl ch),y4,y5,y6]/\Fw K aa ks H H5 d gh Aa g2/\dY bt aa g g2 /\
  ((ch=true/\∃n,m=n+1/\pM bt aa n g2)\/(ch=false/\iC bt aa g2)),⟨n0+1,kvs,ks,g,true,none,none,none,rfl,S0,.refl,.inl ⟨rfl,n0,rfl,Vk⟩⟩,?_⟩
 rintro m σ H5 ⟨gh,Aa,g2,ch,y4,y5,y6,rfl,S2,Jw,cs⟩;refine⟨_,rfl,ch,rfl,?_⟩;refine 184
 .rcases cs with ⟨_,n,em,en⟩ | ⟨c',_⟩
  case inr=>rw [c'] at c;cases c
  refine⟨λσ H6=>∃(mP:87) (Fo:z0t)(g3:G)(zL:Bool)(y4 y5 y6:Option V),σ=[aE R,aE d,aE fl,some (.bl zL),y4,y5,y6]/\Fw K aa ks H H6 d mP Fo g3/\(g3,zL)=uv bt aa g2,?_,?_⟩
  .rintro σ H6 ⟨mP,Fo,g3,zL,y4,y5,y6,rfl,S3,e3⟩;have Z6:g3=(uv bt aa g2).1:=congrArg Prod.fst e3;have Pn:zL=(uv bt aa g2).2:=congrArg Prod.snd e3;have Q9:dY bt aa g g3:=by
    rw [Z6];exact Jw.trans (tu bt aa aa (g2,false) λ_ h=>h)
   cases h3:zL with
   | false =>
    rw [h3] at Pn;obtain⟨f1,f2⟩:=tE bt aa (g2,false) Pn.symm;refine⟨0,∅,mP,Fo,g3,false,_,_,_,rfl,S3,Q9,.inr ⟨rfl,?_⟩⟩;have e33:g3=g2:=Z6.trans f1;rw [e33];exact f2
   | true =>
    rw [h3] at Pn;cases n with
    | zero=>rw [show (uv bt aa g2).2=false from en] at Pn;cases Pn
    | succ n' =>
     rcases en with en | en
     .rw [en] at Pn;cases Pn
     exact⟨n'+1,∅,mP,Fo,g3,true,_,_,_,rfl,S3,Q9,.inl ⟨rfl,n',rfl,by rw [Z6];exact en⟩⟩
  refine⟨_,rfl,R,rfl,⟨_,S2.sm.seq hd hR⟩,?_⟩;refine bP (xs:=138) (λi σ H6=>∃(mP:87) (Fo:z0t)(g3:G)(zL:Bool)(y4 y5 y6:Option V),σ=[aE R,aE d,aE fl,some (.bl zL),y4,y5,y6]/\Fw K aa ks H H6 d mP Fo g3/\(g3,zL)=(aa.take i).foldl (sstep bt) (g2,false))
   ⟨gh,Aa,g2,false,_,_,_,rfl,S2,rfl⟩ ?_ ?_ ?_
  .rintro i σ H6 _ ⟨mP,Fo,g3,zL,y4,y5,y6,rfl,S3,_⟩;exact S3.sm.seq hd hR
  .rintro i x σ H6 ex ⟨mP,Fo,g3,zL,y4,y5,y6,rfl,S3,e3⟩;rw [a0] at ex;obtain⟨r,er,rfl⟩:=b0.mp ex;obtain⟨ru,e1,p,v1,v2⟩:=cI.get er;have kZ:=cC e1;have OW:=h8 ru kZ;have fo:(aa.take (i+1)).foldl (sstep bt) (g2,false)=sstep bt (g3,zL) ru:=by
    rw [cO,e1,v_,<-e3];rfl
   rw [fo];have Wu:=S3.sm.tup hd v2;refine⟨r,_,rfl,S3.sm.tup hd v1,rfl,_,_,rfl,_,_,rfl,rfl,?_⟩;refine⟨_,rfl,p,rfl,⟨_,Wu⟩,λD2 jI=>vJ rfl Wu ∅ S3.hd jI λH7 F6 hd7=>?_⟩;have S4:=S3.same F6;have v4:=F6.tup Wu;have eb:(ru.2.map λz=>(aZ mP 139).isSome).all id=k_ g3 ru:=by
    unfold k_;rw [List.all_map];refine List.all_congr rfl λz=>?_;show (aZ mP 139).isSome=_;rw [S3.val,qU]
   refine⟨D2,_,rfl,aI.of hd7,_,rfl,?_⟩;rw [eb];refine cf (λc4=>?_) (λc4=>?_)
   .have al:∀z∈ru.2,(g3 z).isSome=true:=λz hz=>eG.mp c4 z hz;refine⟨_,rfl,p,rfl,⟨_,v4⟩,λD3 OV=>EV (g:=g3) rfl v4 ∅ S4.hd S4.val al OV λH8 PV SY=>?_⟩;have S5:=S4.same PV;have esz:1+(ru.2.map λz=>(g3 z).getD 0).sum=aM g3 ru:=rfl;refine⟨D3,_,rfl,aI.of SY,_,_,rfl,rfl,?_⟩;have mem:(aZ mP (Sum.inr ru.1)).isSome=(g3 ru.1).isSome:=by rw [S5.val,qU]
    have fl5:=S5.sm fl _ (λz=>by rw [z,hd] at Iu;cases Iu) Iu;have c5':=S5.sm c' _ (λz=>by rw [z,hd] at mS;cases mS) mS;have l5:=S5.len;refine⟨_,rfl,_,rfl,d,_,rfl,cg.k (k:=Sum.inr ru.1) S5.hd,_,rfl,?_⟩;refine cf (λc5=>?_) (λc5=>?_)
    .have fr:cX bt g3 ru=true:=by
      unfold cX;rw [<-mem,c4,c5];rfl
     refine⟨_,rfl,_,rfl,_,rfl,d,_,rfl,jX.k (k:=Sum.inr ru.1) S5.hd (bB ∅),?_⟩;exact⟨_,_,dN g3 ru.1 (aM g3 ru),true,_,_,_,rfl,S5.put kZ (aM g3 ru),(aw fr).symm⟩
    have isS:(g3 ru.1).isSome=true:=by
     rw [mem] at c5;cases hq:(g3 ru.1).isSome with
     | true=>rfl
     | false=>rw [hq] at c5;exact absurd rfl c5
    obtain⟨k,ek⟩:=nj.mp isS;have hg:cg H8 d (.str ru.1) (some (.int k)):=by
     have:=cg.k (k:=Sum.inr ru.1) S5.hd;rw [S5.val,ek] at this;exact this
    refine⟨fl,pm,c',gL,rfl,_,rfl,_,rfl,_,rfl,d,_,rfl,hg,fl5,c5',rfl,Sj (aM g3 ru) k _ _ ⟨_,rfl,?_⟩⟩;refine cf (λc6=>?_) (λc6=>?_)
    .have fr:cX bt g3 ru=true:=by
      unfold cX;rw [c4,ek];show (true && (false || bt (aM g3 ru) k))=true
      rw [c6];rfl
     refine⟨_,rfl,_,rfl,_,rfl,d,_,rfl,jX.k (k:=Sum.inr ru.1) S5.hd (bB ∅),?_⟩;exact⟨_,_,dN g3 ru.1 (aM g3 ru),true,_,_,_,rfl,S5.put kZ (aM g3 ru),(aw fr).symm⟩
    have fr:¬cX bt g3 ru=true:=by
     unfold cX;rw [c4,ek];show ¬(true && (false || bt (aM g3 ru) k))=true
     rw [ro.mpr c6];exact nofun
    exact⟨mP,Fo,g3,zL,_,_,_,rfl,S5,(ar fr).symm⟩
   have e5:sstep bt (g3,zL) ru=(g3,zL):=ar (λz=>c4 (by unfold cX at z;exact(jj.mp z).1));exact⟨mP,Fo,g3,zL,_,_,_,rfl,S4,e5.symm⟩
  rintro σ H6 ⟨mP,Fo,g3,zL,y4,y5,y6,rfl,S3,e3⟩;rw [au,ll,cw] at e3;exact⟨mP,Fo,g3,zL,_,_,_,rfl,S3,e3⟩
 rcases cs with ⟨c',_⟩ | ⟨_,se⟩
 .rw [c'] at c;exact absurd rfl c
 exact⟨_,rfl,qq gh Aa g2 H5 S2.sm S2.hd S2.keys S2.val Jw se (by have:=S2.len;omega)⟩
end
end g9
namespace M11
open PySem L2
theorem fold_lt {bt:Int->Int->Bool}{aa:83}{J:G->Prop}{r:G->G->Prop}(tr:∀a b c,r a b->r b c->r a c)
  (yg:∀g ru,J g->ru∈aa->cX bt g ru=true->J (dN g ru.1 (aM g ru))/\r (dN g ru.1 (aM g ru)) g) :
  ∀(l:83)(a:G×Bool),(∀ru∈l,ru∈aa)->J a.1->J (l.foldl (sstep bt) a).1/\(l.foldl (sstep bt) a=a\/r (l.foldl (sstep bt) a).1 a.1)
 | [],a,_,j=>⟨j,.inl rfl⟩
 | ru::l,a,h,j=>by
  by_cases c:cX bt a.1 ru=true
  .have e:sstep bt a ru=(dN a.1 ru.1 (aM a.1 ru),true):=aw c;obtain⟨j1,r1⟩:=yg a.1 ru j (h ru cR) c;obtain⟨j2,r2⟩:=fold_lt tr yg l (dN a.1 ru.1 (aM a.1 ru),true) (λx hx=>h x (cS _ hx)) j1;rw [List.foldl_cons,e];refine⟨j2,.inr ?_⟩;rcases r2 with r2 | r2
   .rw [r2];exact r1
   exact tr _ _ _ r2 r1
  have e:sstep bt a ru=a:=ar c;rw [List.foldl_cons,e];exact fold_lt tr yg l a (λx hx=>h x (cS _ hx)) j
def zx {bt:Int->Int->Bool}{aa:83}{J:G->Prop}{r:G->G->Prop}(tr:∀a b c,r a b->r b c->r a c)
  (yg:∀g ru,J g->ru∈aa->cX bt g ru=true->J (dN g ru.1 (aM g ru))/\r (dN g ru.1 (aM g ru)) g){g:G}(h:Acc r g)(j:J g):∃n,pM bt aa n g:=by
 induction h with
 | intro g _ ih =>
  cases c:(uv bt aa g).2 with
  | false=>exact⟨0,c⟩
  | true =>
   obtain⟨j2,r2⟩:=fold_lt tr yg aa (g,false) (λ_ h=>h) j;have r3:r (uv bt aa g).1 g:=by
    rcases r2 with r2 | r2
    .have e:(uv bt aa g)=(g,false):=r2;rw [e] at c;cases c
    exact r2
   obtain⟨n,hn⟩:=ih _ r3 j2;exact⟨n+1,.inr hn⟩
def dY.keep {bt:Int->Int->Bool}{aa:83}{J:G->Prop}(yg:∀g ru,J g->ru∈aa->cX bt g ru=true->J (dN g ru.1 (aM g ru))){g g':G}(h:dY bt aa g g')(j:J g):J g':=by
 induction h with
 | refl=>exact j
 | step _ a b ih=>exact yg _ _ ih a b
def fQ (f:Str->Nat) (hs:z0t):Nat:=(hs.map f).sum
theorem yu {f k:Str->Nat}:∀{hs:z0t},(∀x∈hs,f x<=k x)->fQ f hs<=fQ k hs
 | [],_=>aG _
 | h::r,q=>by
  have h1:=q h cR;have h2:=yu (hs:=r) λx hx=>q x (cS _ hx);show f h+fQ f r<=k h+fQ k r;omega
theorem nH {f k:Str->Nat}:∀{hs:z0t}{h:Str},(∀x∈hs,f x<=k x)->h∈hs->f h < k h->fQ f hs < fQ k hs
 | a::r,h,q,m,l=>by
  have h1:=q a cR;have h2:∀x∈r,f x<=k x:=λx hx=>q x (cS _ hx);show f a+fQ f r < k a+fQ k r;rcases b8.mp m with z | z
  .have:=yu h2;rw [z] at l;omega
  have:=nH h2 z l;omega
theorem jL (g:G)(J:∀z n,g z=some n->(0:Int)<=n):∀ps:z0t,0<=(ps.map λp=>(g p).getD 0).sum
 | []=>85
 | p::r=>by
  have h1:=jL g J r;have h2:0<=(g p).getD 0:=by
   cases e:g p with
   | none=>exact jY _
   | some n=>exact J p n e
  rw [cD,lO];omega
def NN (g:G):Prop:=∀z n,g z=some n->(0:Int)<=n
def xx {g:G}(j:NN g)(ru:ax):NN (dN g ru.1 (aM g ru)):=λz n e=>by
 unfold dN at e;by_cases c:z=ru.1
 .rw [aw c] at e;cases e;have:=jL g j ru.2;unfold aM;omega
 rw [ar c] at e;exact j z n e
def bl (a b:Int):Bool:=decide (a < b)
def bg (a b:Int):Bool:=decide (a > b)
def Bt (hs:z0t)(g' g:G):Prop :=
 fQ (λh=>if (g' h).isSome then 0 else 1) hs < fQ (λh=>if (g h).isSome then 0 else 1) hs \/
 (fQ (λh=>if (g' h).isSome then 0 else 1) hs=fQ (λh=>if (g h).isSome then 0 else 1) hs/\fQ (λh=>((g' h).getD 0).toNat) hs < fQ (λh=>((g h).getD 0).toNat) hs)
def K1 (hs:z0t)(g:G):Acc (Bt hs) g:=by
 have wf:=(Prod.lex (β:=Nat) (α:=Nat) ⟨(· < ·),Nat.lt_wfRel.wf⟩ ⟨(· < ·),Nat.lt_wfRel.wf⟩).wf;have key:∀p:Nat×Nat,∀g:G,(fQ (λh=>if (g h).isSome then 0 else 1) hs,fQ (λh=>((g h).getD 0).toNat) hs)=p->Acc (Bt hs) g:=λp=>by
  induction p using wf.induction with
  | _ p ih =>
   intro g e;refine⟨g,λg' r=>ih _ ?_ g' rfl⟩;rw [<-e];rcases r with r | ⟨r1,r2⟩
   .exact Prod.Lex.left _ _ r
   show Prod.Lex _ _ (fQ (λh=>if (g' h).isSome then 0 else 1) hs,_) _;rw [r1];exact Prod.Lex.right _ r2
 exact key _ g rfl
def Oo (hs:z0t)(a b c:G)(h:Bt hs a b)(k:Bt hs b c):Bt hs a c:=by
 unfold Bt at *;omega
def Ib {aa:83}(g:G)(ru:ax)(j:NN g)(m:ru∈aa)(f:cX bl g ru=true):NN (dN g ru.1 (aM g ru))/\Bt (aa.map 82) (dN g ru.1 (aM g ru)) g:=by
 refine⟨xx j ru,?_⟩;have hm:ru.1∈aa.map 82:=iw m;have nn:=xx j ru;have uJ:dN g ru.1 (aM g ru) ru.1=some (aM g ru):=aw rfl;have ne:∀z,z≠ru.1->dN g ru.1 (aM g ru) z=g z:=λz n=>ar n;unfold cX at f;have f2:=(jj.mp f).2;cases e:g ru.1 with
 | none =>
  refine .inl (nH (λx _=>?_) hm ?_)
  .by_cases c:x=ru.1
   .show (if (dN g ru.1 (aM g ru) x).isSome then 0 else 1)<=_;rw [c,uJ];exact gp _
   show (if (dN g ru.1 (aM g ru) x).isSome then 0 else 1)<=_;rw [ne x c];exact aG _
  show (if (dN g ru.1 (aM g ru) ru.1).isSome then 0 else 1) < (if (g ru.1).isSome then 0 else 1);rw [uJ,e];show 0 < 1;exact Nat.one_pos
 | some k =>
  rw [e] at f2;have lt:aM g ru < k:=cW (by simpa [bl] using f2);have h0:=nn ru.1 _ uJ;refine .inr ⟨?_,nH (λx _=>?_) hm ?_⟩
  .unfold fQ
   congr 1
   refine rC λx _=>?_;by_cases c:x=ru.1
   .show (if (dN g ru.1 (aM g ru) x).isSome then 0 else 1)=(if (g x).isSome then 0 else 1);rw [c,uJ,e];rfl
   show (if (dN g ru.1 (aM g ru) x).isSome then 0 else 1)=(if (g x).isSome then 0 else 1);rw [ne x c]
  .by_cases c:x=ru.1
   .show ((dN g ru.1 (aM g ru) x).getD 0).toNat<=((g x).getD 0).toNat;rw [c,uJ,e];show (aM g ru).toNat<=k.toNat;omega
   show ((dN g ru.1 (aM g ru) x).getD 0).toNat<=((g x).getD 0).toNat;rw [ne x c];exact aG _
  show ((dN g ru.1 (aM g ru) ru.1).getD 0).toNat < ((g ru.1).getD 0).toNat;rw [uJ,e];show (aM g ru).toNat < k.toNat;omega
def Bu (aa:83)(g:G)(j:NN g):∃n,pM bl aa n g:=zx (Oo (aa.map 82)) (λg ru=>Ib g ru) (K1 _ g) j
inductive Em (aa:83):Str->Prop
 | mk {ru:ax}:ru∈aa->(∀p∈ru.2,Em aa p)->Em aa ru.1
def ue (aa:83)(b:Str->Int):Prop:=(∀z,0<=b z)/\∀ru∈aa,(∀p∈ru.2,Em aa p)->1+(ru.2.map b).sum<=b ru.1
def GJ (aa:83)(b:Str->Int)(g:G):Prop:=∀z n,g z=some n->0<=n/\n<=b z/\Em aa z
theorem Cr {aa:83}{b:Str->Int}{g:G}(j:GJ aa b g)(hb:∀z,0<=b z):∀ps:z0t,(ps.map λp=>(g p).getD 0).sum<=(ps.map b).sum
 | []=>85
 | p::r=>by
  have h1:=Cr j hb r;have h2:(g p).getD 0<=b p:=by
   cases e:g p with
   | none=>exact hb p
   | some n=>exact(j p n e).2.1
  rw [cD,lO,cD,lO];omega
def gm (b:Str->Int)(g:G)(h:Str):Nat:=if (g h).isSome then (b h - (g h).getD 0).toNat else (b h).toNat+1
def s_ {aa:83}{b:Str->Int}(B:ue aa b)(g:G)(ru:ax)(j:GJ aa b g)(m:ru∈aa)(f:cX bg g ru=true) :
  GJ aa b (dN g ru.1 (aM g ru))/\fQ (gm b (dN g ru.1 (aM g ru))) (aa.map 82) < fQ (gm b g) (aa.map 82):=by
 have hm:ru.1∈aa.map 82:=iw m;have uJ:dN g ru.1 (aM g ru) ru.1=some (aM g ru):=aw rfl;have ne:∀z,z≠ru.1->dN g ru.1 (aM g ru) z=g z:=λz n=>ar n;unfold cX at f;obtain⟨f1,f2⟩:=jj.mp f;have em:∀p∈ru.2,Em aa p:=λp hp=>by
  obtain⟨n,en⟩:=nj.mp (eG.mp f1 p hp);exact(j p n en).2.2
 have bd:=B.2 ru m em;have sb:=Cr j B.1 ru.2;have s0:=jL g (λz n e=>(j z n e).1) ru.2;have sz:0<=aM g ru/\aM g ru<=b ru.1:=by unfold aM;omega
 refine⟨λz n e=>?_,nH (λx _=>?_) hm ?_⟩
 .by_cases c:z=ru.1
  .rw [c,uJ] at e;cases e;rw [c];exact⟨sz.1,sz.2,.mk m em⟩
  rw [ne z c] at e;exact j z n e
 .by_cases c:x=ru.1
  .rw [c];unfold gm;rw [uJ];show (b ru.1 - aM g ru).toNat<=_;cases e:g ru.1 with
   | none=>show _<=(b ru.1).toNat+1;omega
   | some k =>
    rw [e] at f2;have lt:aM g ru > k:=cW (by simpa [bg] using f2);show _<=(b ru.1 - k).toNat;omega
  unfold gm;rw [ne x c];exact aG _
 unfold gm;rw [uJ];show (b ru.1 - aM g ru).toNat < _;cases e:g ru.1 with
 | none=>show _ < (b ru.1).toNat+1;omega
 | some k =>
  rw [e] at f2;have lt:aM g ru > k:=cW (by simpa [bg] using f2);show _ < (b ru.1 - k).toNat;omega
def BK {aa:83}{b:Str->Int}(B:ue aa b)(g:G)(j:GJ aa b g):∃n,pM bg aa n g :=
 zx (r:=λg' g=>fQ (gm b g') (aa.map 82) < fQ (gm b g) (aa.map 82)) (λ_ _ _ h k=>kq h k) (s_ B) ((InvImage.wf (λg:G=>fQ (gm b g) (aa.map λx:ax=>x.1)) Nat.lt_wfRel.wf).apply g) j
def zp {aa:83}{b:Str->Int}(B:ue aa b){g g':G}(h:dY bg aa g g')(j:GJ aa b g):GJ aa b g':=h.keep (λg ru a m f=>(s_ B g ru a m f).1) j
end M11
namespace L2
open PySem
def zE {K:bp}{H:Hp}{p D:Addr}{zs:z0t}{σ:St}{v:V}{x:Str}{Qp:Hp->Prop}(hp:aI K H p (148))(hz:zs.length<=10000)(hD:H D=none)
  (q:∀ts H2,aD H H2->H2 D=some 163->Paired (λt h=>aY K H2 t [.str h,v]) ts zs->Qp H2) :
  ∃W:183,(∃m,W 0 m [] (dO [x] [] σ) 179) /\
 ∀i m ys σ' H,W i m ys σ' H->((jG K p).stop i H/\Qp H)\/((jG K p).go i H/\∃m',m' < m/\∀x H',(jG K p).lS i H x H'->dD 0 x σ' H' λσ2 H2=>hV σ2 H2 λb H3 =>
  if b=true then uu (gQ (gK 0) (gQ (tC v) qj)) σ2 H3 182 else W (i+1) m' ys σ2 H3):=by
 refine bT (xs:=148) (λi ys σ2 H2=>∃ts:z0q,ys=ts.map V.ref/\ts.length=i/\Paired (λt h=>aY K H2 t [.str h,v]) ts (zs.take i)/\(∃y0,σ2=[y0])/\aD H H2/\H2 D=some (.lst ys))
  ⟨[],rfl,rfl,.nil,⟨none,rfl⟩,af hD _,ae⟩ (λi ys σ2 H2 _ h=>?_) (λi x ys σ2 H2 ex h=>?_) (λys σ2 H2 h=>?_)
 .obtain⟨_,_,_,_,_,sm,_⟩:=h;exact sm.seq hp
 .obtain⟨ts,rfl,ht,jT,⟨y0,rfl⟩,sm,hd⟩:=h;rw [a0] at ex;obtain⟨z,ez,rfl⟩:=b0.mp ex;have li:=(bw.mp ez).1;refine goN (vq ?_);refine⟨_,rfl,qi,λt jH=>⟨?_,176,ts++[t],?_,?_,?_,⟨_,rfl⟩,?_,ae⟩⟩
  .rw [aj (aC hd jH)];exact hd
  .rw [bj];rfl
  .rw [a8,ht];rfl
  .rw [cO,ez];have iW:upd H2 t (.tup [.str z,v]) D=some 163:=by rw [aj (aC hd jH)];exact hd
   exact gk (Paired.b_ jT λt' h' z=>bz iW ((af jH _).tup z)) (bz iW (aY.of ae))
  intro b o hb;rw [203];exact af jH _ _ _ (sm b o hb)
 obtain⟨ts,rfl,ht,jT,_,sm,hd⟩:=h;rw [au,cw] at jT;exact q ts H2 sm hd jT
def Tab.same {T:Addr}{pos:Pos}{qual:Str}{H H':Hp}(h:Tab T pos qual H)(s:aD H H'):Tab T pos qual H':=by
 obtain⟨ps,a,b,c⟩:=h;refine⟨ps,s _ _ a,b,c.imp id ?_⟩;rintro⟨c',e,g⟩;exact⟨c',e,s _ _ g⟩
def Tab.Me {T d:Addr}{pos:Pos}{qual:Str}{H H':Hp}{kvs:87}(h:Tab T pos qual H)(s:gB d H H')(hd:H d=162):Tab T pos qual H':=by
 obtain⟨ps,a,b,c⟩:=h;refine⟨ps,s _ _ (λz=>by rw [z,hd] at a;cases a) a,b,c.imp id ?_⟩;rintro⟨c',e,g⟩;exact⟨c',e,s _ _ (λz=>by rw [z,hd] at g;cases g) g⟩
structure zX (K:bp)(x qual:Str)(st:Stmt)(f:Addr)(fd:FuncData)(T:Addr):Prop where
 ex:∃(oc:Value)(od:z0m)(kV doc pm:Value)(an:z0m)(c:Addr)(ct:Value)(yL:z0a),
  fd=PySem.W.fnOf x qual (dH st) (cJ st) (ay st) .none kV doc pm an (.ref c) ct/\K.lookup f=some ⟨oc,od,.func fd,yL⟩/\PySem.W.codeIn K (.ref c) qual=true/\PySem.W.codeHdIn K c T=true
 kp:PySem.W.keepIn K (.ref f)=true
def zX.ok {P:Program}{w:World}{K:bp}{mg:z0c}{base:Heap}{x qual:Str}{st:Stmt}{f:Addr}{fd:FuncData}{T:Addr}{N ps:z0t}{k:Nat}{sp:Sp}(F:zX K x qual st f fd T)(S:aK N ps (ay st))(len:∀vs H Q E,sp vs H Q E->vs.length=ps.length)
  (jB:∀(c:Addr)(A:Around)(outer:List Env)(s:Shared)(H:Hp)(vs:List V)(Q:VK)(E:XK),PySem.W.codeHdIn K c T=true->gC k (A.deeper (PyProof.Rows.envOfC qual (ay st) s.heap.objs.size f (.ref c)))->sp vs H Q E ->
   ∃t,Cd (pJ fK P w K mg base N qual (ay st) f (.ref c) A outer s H E).KP (cJ st) t/\t { nx:=λ_ H'=>Q .d0 H',rt:=Q } (start N vs) H):bR P w K mg base fK (k+1) f fd ps sp:=by
 obtain⟨oc,od,kV,doc,pm,an,c,ct,yL,rfl,lk,yh,hC⟩:=F.ex;refine IJ lk yh S len λA outer s H vs Q E hr Fp=>?_;obtain⟨t,h,q⟩:=jB c A outer s H vs Q E hC hr Fp;exact⟨t,h.KP,q⟩
theorem vi {v:V}:∀(hs:z0t)(bX:87) (as:z0t),bX.map 82=as.map Sum.inr->(di (hs.map λh=>((Sum.inr h:aN),v)) bX).map 82=(M11.xS as hs).map Sum.inr
 | [],bX,as,e=>e
 | h::r,bX,as,e=>vi r (bQ bX (Sum.inr h) v) (M11.gM as h) (g9.iR e h)
theorem rO {v:V}:∀(hs:z0t)(bX:87)(z:Str),aZ (di (hs.map λh=>((Sum.inr h:aN),v)) bX) 139=if z∈hs then some v else aZ bX 139
 | [],bX,z=>by simp [di]
 | h::r,bX,z=>by
  have ih:=rO (v:=v) r (bQ bX (Sum.inr h) v) z;show aZ (di (r.map λh=>((Sum.inr h:aN),v)) (bQ bX (Sum.inr h) v)) 139=_;rw [ih,rP];by_cases c:z∈r
  .rw [aw c,aw (cS _ c)]
  rw [ar c];by_cases c2:z=h
  .rw [aw (by rw [c2]),aw (by rw [c2];exact cR)]
  rw [ar (λe=>c2 (kn e)),ar (λe=>(b8.mp e).elim c2 c)]
end L2
namespace g9
open PySem L2 M11
def RW:List Stmt->Arguments×Expr×Scope×Pos
 | [.Return (some (.Call _ [_,_,.Lambda p b s pos] _ _)) _]=>(p,b,s,pos)
 | _=>(⟨[],[],none,[],[],none,[]⟩,.Constant .none 0 ⟨0,0,0,0⟩,ay si,⟨0,0,0,0⟩)
abbrev sR:=RW (cJ si)
abbrev Bs:=RW (cJ xi)
abbrev z_:Str := "least_sizes" ++ ".<locals>." ++ "<lambda>"
abbrev Mu:Str := "greatest_empty_sizes" ++ ".<locals>." ++ "<lambda>"
def Nw:aK ["size","known"] ["size","known"] sR.2.2.1:=152
def Nx:aK ["size","known"] ["size","known"] Bs.2.2.1:=152
section
def Bb (F:ir K "settled_sizes" "settled_sizes" nR f fd)(T:Txt mg):bR P w K mg base fK 2 f fd ["rules","sizes","better"] (iK K z_ sR.1 sR.2.1 sR.2.2.1 M11.bl) :=
 ve F T Nw (λpm gL c' us hl=>match us,hl with | [_,_],_=>rfl) (λ_ _ _ _ _ _=>fJ lV (pv 0) (pv 1) (cx _)) (λa b H Q h=>⟨_,rfl,_,rfl,_,_,rfl,rfl,h⟩)
def Bc (F:ir K "settled_sizes" "settled_sizes" nR f fd)(T:Txt mg):bR P w K mg base fK 2 f fd ["rules","sizes","better"] (iK K Mu Bs.1 Bs.2.1 Bs.2.2.1 M11.bg) :=
 ve F T Nx (λpm gL c' us hl=>match us,hl with | [_,_],_=>rfl) (λ_ _ _ _ _ _=>fJ Hf (pv 0) (pv 1) (cx _)) (λa b H Q h=>⟨_,rfl,_,rfl,_,_,rfl,rfl,h⟩)
def zr (aa:83):G:=λz=>if z∈uh (hd aa) [] (aa.flatMap (·.2)) then some 0 else none
def qA (K:bp)(T1:Addr):Sp:=λvs H Q _=>∃(R:Addr)(rs:z0q)(aa:83),vs=[.ref R]/\aI K H R 146/\bK K H rs aa/\aa.length<=1000/\198/\Tab T1 sR.2.2.2 z_ H /\
 ∀(d:Addr)(kvs:87) (ks:z0t)(g:G)(H':Hp),H d=none->gB T1 H H'->Tab T1 sR.2.2.2 z_ H'->H' d=162->kvs.map 82=ks.map Sum.inr->(∀z,aZ kvs 139=(g z).map V.int)->dY M11.bl aa (zr aa) g->iC M11.bl aa g->kvs.length<=20000->Q (.ref d) H'
def J3:aK ["rules"] ["rules"] (ay si):=152
def Hq {T1:Addr}(F:zX K "least_sizes" "least_sizes" si f fd T1)(T:Txt mg)(hB:uf mg base)(GW:aF P w K mg base 1 "words_in" ["rules"] (Cv K))
  (GS:aF P w K mg base 2 "settled_sizes" ["rules","sizes","better"] (iK K z_ sR.1 sR.2.1 sR.2.2.1 M11.bl)):bR P w K mg base fK 3 f fd ["rules"] (qA K T1):=by
 refine F.ok J3 157 (λc A outer s H vs Q E hC hr h=>?_)
 .obtain⟨R,rs,aa,rfl,_⟩:=h;rfl
 obtain⟨R,rs,aa,rfl,hR,cI,bN,h8,hT,q⟩:=h;refine⟨_,ao (br (bu GS hr rfl (ab (pv 0) (ab (bL (eZ rfl) rfl T.Dk gA (ab
  (aV ["word"] [] rfl (aR (bu (GW.mono (by decide:1<=2)) hr rfl (ab (pv 0) ak))) (aS rfl rfl) nofun rfl nofun
   (λ_ _ _ _ _=>aq (i:=0) (show (["word"]:z0t).Nodup by decide +kernel) rfl 84) 177
   (λ_ _ _ _ _=>bW (ab (pv 0) (ab av ak)))) ak)) (ab (G7 (T:=T1) rfl hC hB nofun) ak))))),?_⟩
 dsimp only [zC];refine⟨_,rfl,_,rfl,R,rs,aa,rfl,hR,cI,bN,h8,λD1 H1 f1 s1 e1=>?_⟩;have lw:(uh (hd aa) [] (aa.flatMap (·.2))).length<=8000:=by
  have h1:=nr (hd aa) (aa.flatMap (·.2)) [];have h2:=jD aa 1000 bN h8;simp only [j_] at h1;omega
 refine⟨D1,rfl,⟨_,aI.of e1⟩,λD2 jI=>zE (aI.of e1) ∅ jI λts H2 s2 e2 p2=>?_⟩;have kp:Paired (λt (kv:aN×V)=>aY K H2 t [kV kv.1,kv.2]) ts ((uh (hd aa) [] (aa.flatMap (·.2))).map λh=>((Sum.inr h:aN),V.int 0)):=cY p2 λ_ _ z=>z;refine⟨D2,ts,_,rfl,e2,kp,λd hd2=>?_⟩;have k1:=vi (v:=.int 0) (uh (hd aa) [] (aa.flatMap (·.2))) [] [] rfl;have k2:∀z,aZ (di ((uh (hd aa) [] (aa.flatMap (·.2))).map λh=>((Sum.inr h:aN),V.int 0)) []) 139=(zr aa z).map V.int:=λz=>by
  rw [rO];unfold zr
  split <;> rfl
 have lk:=i5 (uh (hd aa) [] (aa.flatMap (·.2))) [];simp only [j_] at lk;generalize di ((uh (hd aa) [] (aa.flatMap (·.2))).map λh=>((Sum.inr h:aN),V.int 0)) []=RZ at k1 k2;have s3:=(s1.trans s2).trans (af hd2 (.dK RZ));have e3:upd H2 d (.dK RZ) d=some (.dK RZ):=ae;have Ad:H d=none:=(s1.trans s2).free hd2;generalize upd H2 d (.dK RZ)=H3 at s3 e3;refine⟨hT.same s3,λfl c' gL H4 s4 t4 ffl e4 ZI=>?_⟩;have nT:d≠T1:=λz=>by
  obtain⟨ps,a,_⟩:=hT.same s3;rw [<-z,e3] at a;cases a
 have C9:=s4 d _ nT e3;have Xz:∀{a xs},aY K H a xs->aY K H4 a xs:=λ{a xs} h=>by
  obtain⟨ps,b,_⟩:=hT;rcases h with (h | ⟨u,h⟩) | h
  .exact .inl (.inl (s4 _ _ (λz=>by rw [z,b] at h;cases h) (s3 _ _ h)))
  .exact .inl (.inr ⟨u,s4 _ _ (λz=>by rw [z,b] at h;cases h) (s3 _ _ h)⟩)
  exact .inr h
 have XA:∀{a xs},aI K H a xs->aI K H4 a xs:=λ{a xs} h=>by
  obtain⟨ps,b,_⟩:=hT;rcases h with (h | ⟨u,h⟩) | h
  .exact .inl (.inl (s4 _ _ (λz=>by rw [z,b] at h;cases h) (s3 _ _ h)))
  .exact .inl (.inr ⟨u,s4 _ _ (λz=>by rw [z,b] at h;cases h) (s3 _ _ h)⟩)
  exact .inr h
 refine⟨R,rs,aa,d,fl,c',_,gL,RZ,_,zr aa,rfl,XA hR,cI.keep λ_ _ z=>Xz z,bN,h8,C9,k1,pI _ gE,∅,k2,Bu aa _ λz n e=>?_,e4,ZI,λmQ R0 g' H5 s5 e5 k5 v5 st se lk'=>?_⟩
 .unfold zr at e
  split at e
  .cases e;exact jY _
  cases e
 refine q d mQ R0 g' H5 Ad (λb o n hb=>s5 b o (λz=>?_) (s4 b o n (s3 b o hb))) (t4.Me s5 C9) e5 k5 v5 st se lk';rw [z,Ad] at hb;cases hb
def wU (K:bp)(T2:Addr):Sp:=λvs H Q _=>∃(R:Addr)(rs:z0q)(aa:83)(b:Str->Int),vs=[.ref R]/\aI K H R 146/\bK K H rs aa/\aa.length<=1000/\198/\ue aa b/\Tab T2 Bs.2.2.2 Mu H /\
 ∀(d:Addr)(kvs:87) (ks:z0t)(g:G)(H':Hp),H d=none->gB T2 H H'->Tab T2 Bs.2.2.2 Mu H'->H' d=162->kvs.map 82=ks.map Sum.inr->(∀z,aZ kvs 139=(g z).map V.int)->GJ aa b g->dY M11.bg aa (λ_=>none) g->iC M11.bg aa g->Q (.ref d) H'
def Kb:aK ["rules"] ["rules"] (ay xi):=152
def Hs {T2:Addr}(F:zX K "greatest_empty_sizes" "greatest_empty_sizes" xi f fd T2)(hB:uf mg base)
  (GS:aF P w K mg base 2 "settled_sizes" ["rules","sizes","better"] (iK K Mu Bs.1 Bs.2.1 Bs.2.2.1 M11.bg)):bR P w K mg base fK 3 f fd ["rules"] (wU K T2):=by
 refine F.ok Kb 157 (λc A outer s H vs Q E hC hr h=>?_)
 .obtain⟨R,rs,aa,b,rfl,_⟩:=h;rfl
 obtain⟨R,rs,aa,b,rfl,hR,cI,bN,h8,hBd,hT,q⟩:=h;refine⟨_,ao (br (bu GS hr rfl (ab (pv 0) (ab fR (ab (G7 (T:=T2) rfl hC hB nofun) ak))))),?_⟩;refine⟨_,rfl,λd Ad=>?_⟩;have s3:=af Ad (.dK []);have e3:upd H d (.dK []) d=some (.dK []):=ae;generalize upd H d (.dK [])=H3 at s3 e3;refine⟨hT.same s3,λfl c' gL H4 s4 t4 ffl e4 ZI=>?_⟩;have nT:d≠T2:=λz=>by
  obtain⟨ps,a,_⟩:=hT.same s3;rw [<-z,e3] at a;cases a
 have C9:=s4 d _ nT e3;have Xz:∀{a xs},aY K H a xs->aY K H4 a xs:=λ{a xs} h=>by
  obtain⟨ps,b,_⟩:=hT;rcases h with (h | ⟨u,h⟩) | h
  .exact .inl (.inl (s4 _ _ (λz=>by rw [z,b] at h;cases h) (s3 _ _ h)))
  .exact .inl (.inr ⟨u,s4 _ _ (λz=>by rw [z,b] at h;cases h) (s3 _ _ h)⟩)
  exact .inr h
 have XA:∀{a xs},aI K H a xs->aI K H4 a xs:=λ{a xs} h=>by
  obtain⟨ps,b,_⟩:=hT;rcases h with (h | ⟨u,h⟩) | h
  .exact .inl (.inl (s4 _ _ (λz=>by rw [z,b] at h;cases h) (s3 _ _ h)))
  .exact .inl (.inr ⟨u,s4 _ _ (λz=>by rw [z,b] at h;cases h) (s3 _ _ h)⟩)
  exact .inr h
 have j0:GJ aa b (λ_=>none):=λz n e=>nomatch e;refine⟨R,rs,aa,d,fl,c',_,gL,[],[],λ_=>none,rfl,XA hR,cI.keep λ_ _ z=>Xz z,bN,h8,C9,rfl,gE,gp _,λ_=>rfl,BK hBd _ j0,e4,ZI,λmQ R0 g' H5 s5 e5 k5 v5 st se lk'=>?_⟩;refine q d mQ R0 g' H5 Ad (λb o n hb=>s5 b o (λz=>?_) (s4 b o n (s3 b o hb))) (t4.Me s5 C9) e5 k5 v5 (zp hBd st j0) st se;rw [z,Ad] at hb;cases hb
end
end g9
namespace L2
open PySem PySem.Spec PyProof.Rows
def O8 (o:Obj):Nat:=match o.data with
 | .dict _ ep=>ep
 | _=>0
def Ut (d:Addr)(o:Obj)(kvs:87):It :=
 ⟨λi H=>H d=some (.md o (.dK kvs))/\i < kvs.length,λi H x H'=>H'=H/\∃kv,kvs[i]?=some kv/\x=kV kv.1,λi H=>H d=some (.md o (.dK kvs))/\kvs.length<=i⟩
def BP {X:Cx}{ag:z0e}{σ:St}{H:Hp}{s:Shared}{d:Addr}{o:Obj}{kvs:87}(I:133)(e:H d=some (.md o (.dK kvs))) :
  (d == sysModules)=false/\∃vs,KV kvs vs/\s.heap.DictAt (aX X.prog X.w) d vs (O8 o):=by
 obtain⟨ho,hz,hs,vs,r,o',es,ep,h1,h2,h3,h4⟩:=(show cP X.prog X.w H s.heap d (.md o (.dK kvs)) from I.cu d _ e);rw [ho] at h1;cases h1;refine⟨hs,vs,r,o,es,ho,h2,?_,h4⟩;unfold O8;rw [h3]
def DG {P:Program}{w:World}{K:bp}{tg:Expr}(d it:Addr)(o:Obj)(kvs:87):Turn P w K tg (Ut d o kvs) [it] it (λi h=>h.IsKeyIter it d i kvs.length (O8 o)) where
 mem:=85
 obj:=λi h st b hb=>by
  have e:b=it:=by simpa using hb
  subst e;obtain⟨o,e,c,d⟩:=st;exact⟨o,e,λv z=>by rw [d] at z;cases z⟩
 keep:=λi h h' st k=>let ⟨o,e,r⟩:=st;⟨o,k it 135 o e,r⟩
 item:=by
  intro X hP hw hK hc i ag s σ H E I hf st hg;subst hP hw hK;obtain⟨hq,hi⟩:=hg;obtain⟨hs,vs,r,da⟩:=BP I hq;have l:=r.length;obtain⟨kv,VH⟩:∃kv,kvs[i]?=some kv:=⟨kvs[i],df hi⟩;obtain⟨q,eq⟩:∃q,vs[i]?=some q:=⟨vs[i]'∅,df ∅⟩;have ek:kv.1=q.1:=by
   have:=congrArg (λl:List aN=>l[i]?) r.keys;simp only [a0,VH,eq] at this;exact hJ this
  obtain⟨f0,f1,f2,f3,f4,f5⟩:=hf it 135;rw [l] at st;refine wpAny_pyNext_dict_item (k:=q.1) (v:=q.2) st da eq λkey h' hk uZ sb=>?_;have I1:Inv X ag σ H { s with heap:=h' }:=I.turned (t':=s.toks) (λb o hb e=>(sb.2 b hb).trans e) f0 f1 f3 f4 f5;obtain⟨o2,e,c,dd⟩:=id uZ;rw [<-l] at uZ;exact⟨key,rfl,C_ (s:={ s with heap:=h' }) e c dd nofun ⟨kV kv.1,H,I1,by rw [ek];exact Ii hk,⟨rfl,kv,VH,rfl⟩,uZ,λb hb=>(hf b hb).1⟩⟩
 done:=by
  intro X hP hw hK hc i ag s σ H E I hf st hg;subst hP hw hK;obtain⟨hq,hi⟩:=hg;obtain⟨hs,vs,r,da⟩:=BP I hq;have l:=r.length;obtain⟨f0,f1,f2,f3,f4,f5⟩:=hf it 135;rw [l] at st;exact wpAny_pyNext_dict_end (I.ok.hd hc) st da (ke ∅) λh' eb=>⟨rfl,I.turned (t':=s.toks) (λb o hb e=>eb b o hb e) f0 f1 f3 f4 f5⟩
 self:=λ_ _ _ _ _ st h=>wpAny_pyIter_keyiter st h
def Sf (tl:TE):TI:=λσ H R=>tl σ H λx H1=>∃d kvs,x=.ref d/\H1 d=162/\∀o,R (Ut d o kvs) (upd H1 d (.md o (.dK kvs)))
def CQ {X:Cx}{tg l:Expr}{tl:TE}(hl:PE X l tl):PI X tg l (Sf tl):=by
 intro ag s σ H R I h;refine dB (hl ag s σ H _ I h) λv s1 bI=>?_;obtain⟨x,H1,I1,r1,q1⟩:=bI;obtain⟨d,kvs,e,hd,q⟩:=q1;subst e;cases r1;obtain⟨hz,hs,vs,r,o,es,ep,h1,h2⟩:=(show cP X.prog X.w H1 s1.heap d (.dK kvs) from I1.cu d _ hd);have I2:Inv X ag σ (upd H1 d (.md o (.dK kvs))) { s1 with heap:=s1.heap,toks:=s1.toks }:=I1.write (x:=d) (e:=d) (by rw [hd];exact True.intro) (.inl rfl) (λb u _ e=>e) ⟨o,h1⟩ ⟨h1,hz,hs,vs,r,o,es,ep,h1,h2⟩;have e2:upd H1 d (.md o (.dK kvs)) d=some (.md o (.dK kvs)):=ae;obtain⟨_,vs2,r2,da⟩:=BP I2 e2;have q2:=q o;generalize upd H1 d (.md o (.dK kvs))=H2 at I2 e2 q2;refine wpAny_pyIter_dict hs da ?_;refine⟨s1.heap.objs.size,[s1.heap.objs.size],_,_,H2,rfl,I2.kept (t':=s1.toks) λb o e=>b9 _ e,DG d _ o kvs,⟨_,dA _ rfl,rfl,by rw [r2.length];rfl⟩,λb hb=>?_,q2⟩;have e:b=s1.heap.objs.size:=by simpa using hb
 subst e;exact I2.xK (aG _) (I2.cu.fresh (aG _))
section
variable {d D:Addr}{o:Obj}{kvs:87}{ts:z0t}{js:z0j}{g:TG}{tif:TT}{te:TE}{R:Hp->Prop}{σ:St}{H:Hp}
def tS (Pv:Nat->List V->St->Hp->Prop)(h0:Pv 0 [] (dO ts js σ) 179)(hl:∀i ys σ H,i<=kvs.length->Pv i ys σ H->H d=some (.md o (.dK kvs)))
  (hs:∀i kv ys σ H,kvs[i]?=some kv->Pv i ys σ H->g (kV kv.1) σ H 220)
  (hd:∀ys σ H,Pv kvs.length ys σ H->R H) :
  ∃W:183,(∃m,W 0 m [] (dO ts js σ) 179) /\
 ∀i m ys σ' H,W i m ys σ' H->((Ut d o kvs).stop i H/\R H)\/((Ut d o kvs).go i H/\∃m',m' < m/\∀x H',(Ut d o kvs).lS i H x H'->g x σ' H' λσ2 H2=>tif σ2 H2 λb H3 =>
  if b=true then te σ2 H3 182 else W (i+1) m' ys σ2 H3):=by
 refine⟨λi m ys σ H=>m=kvs.length - i/\i<=kvs.length/\Pv i ys σ H,⟨kvs.length,85,gp _,h0⟩,?_⟩;rintro i m ys σ' H ⟨rfl,hi,p⟩;have q:=hl i ys σ' H hi p;by_cases jd:i < kvs.length
 .refine .inr ⟨⟨q,jd⟩,kvs.length - (i+1),∅,λx H' y=>?_⟩;obtain⟨e,kv,VH,rfl⟩:=y;subst e;have z:=hs i kv ys σ' _ VH p;have h1:(i+1<=kvs.length)=True:=eq_true jd;simp only [h1,true_and];exact z
 have e:i=kvs.length:=by omega
 subst e;exact .inl ⟨⟨q,aG _⟩,hd ys σ' H p⟩
end
def vC {A:Around}{s:Shared}{l b:Addr}{ys xs:z0u}{aT ft:z0n}(r:bF (ys.map V.int) aT)(r2:bF (xs.map V.int) ft)(hl:s.heap.IsList l aT.toArray)(hb:s.heap.IsList b ft.toArray)(ne:l≠b)(hu:A.units < cLine) :
  SeqAt.EqAt A s (.ref l) (.ref b) (decide (ys=xs)):=by
 have l1:=r.length;have l2:=r2.length;rw [au] at l1 l2;by_cases bN:ys.length=xs.length
 .have h:=SeqAt.RcAt.lists (A:=A) (e:=λj=>decide (ys[j]?=xs[j]?)) hl hb (by simp only [cH];omega) hu λj h1 h2=>?_
  .have e:((List.range aT.toArray.size).all λj=>decide (ys[j]?=xs[j]?))=decide (ys=xs):=by
    rw [jf,eG,decide_eq_true_iff];constructor
    .intro h;refine List.ext_getElem? λj=>?_;by_cases c:j < ys.length
     .exact cW (h j (j4.mpr (by simp only [cH];omega)))
     rw [ke ∅,ke ∅]
    intro h j _;rw [h];exact cE rfl
   rw [e] at h;exact .of_refs ne h
  have k1:j < aT.length:=by simpa using h1
  have k2:j < ft.length:=by simpa using h2
  have e1:ys[j]?=some (ys[j]'∅):=df ∅;have e2:xs[j]?=some (xs[j]'∅):=df ∅;obtain⟨u1,f1,q1⟩:=r.get (show (ys.map V.int)[j]?=some (.int (ys[j]'∅)) by rw [a0,e1];rfl);obtain⟨u2,f2,q2⟩:=r2.get (show (xs.map V.int)[j]?=some (.int (xs[j]'∅)) by rw [a0,e2];rfl);have g1:aT.toArray[j]=u1:=by
   have:=(bw.mp f1).2;simpa using this
  have g2:ft.toArray[j]=u2:=by
   have:=(bw.mp f2).2;simpa using this
  rw [g1,g2,e1,e2];obtain⟨t1,rfl⟩:=q1;obtain⟨t2,rfl⟩:=q2;have:=v7 (A:=A.in1) (s:=s) (ys[j]'∅) t1 (xs[j]'∅) t2;have e3:(ys[j]'∅ == xs[j]'∅)=decide (some (ys[j]'∅)=some (xs[j]'∅)):=by
   rw [jf,beq_iff_eq,decide_eq_true_iff,Option.some.injEq]
  rw [e3] at this;exact this
 have h:=SeqAt.RcAt.lists_lengths (A:=A) hl hb (by simp only [cH,bne_iff_ne];omega) hu;rw [fg (λz=>bN (by rw [z]))];exact .of_refs ne h
def DX {X:Cx}(hu:X.A.units+1 < cLine):ng X (compareOp .In) (λx y H Q=>∃t a l1 l2 xs ys zs,x=.ref a/\y=.ref t/\aY X.K H t [.ref l1,.ref l2]/\aI X.K H a (List.map V.int xs)/\aI X.K H l1 (List.map V.int ys)/\aI X.K H l2 (List.map V.int zs)/\l1≠a/\l2≠a /\
  Q (.bl (decide (ys=xs) || decide (zs=xs))) H):=by
 intro ag s σ H x y v u Q I rx ry h;obtain⟨t,a,l1,l2,xs,ys,zs,rfl,rfl,ht,ha,h1,h2,n1,n2,q⟩:=h;cases rx;cases ry;obtain⟨aT,r,pl,hz⟩:=I.tuple ht;obtain⟨u1,u2,rfl,q1,q2⟩:=vals2 r;cases (show u1=Value.ref l1 from q1);cases (show u2=Value.ref l2 from q2);obtain⟨xa,ra,pa,za⟩:=I.list ha;obtain⟨x1,r1,p1,z1⟩:=I.list h1;obtain⟨x2,r2,p2,z2⟩:=I.list h2;have e1:=vC (A:=X.A.in1) (s:=s) r1 ra p1.isList pa.isList n1 hu;have e2:=vC (A:=X.A.in1) (s:=s) r2 ra p2.isList pa.isList n2 hu;refine SeqAt.in_tupleAt (λy=>if y == .ref l1 then decide (ys=xs) else decide (zs=xs)) (show s.heap.IsTuple t #[.ref l1,.ref l2] from pl) (λy hy=>?_) ?_
 .have Yg:y=.ref l1\/y=.ref l2:=by simpa using hy
  by_cases c:y=.ref l1
  .subst c;rw [aw (rj _)];exact e1
  rcases Yg with z | z
  .exact absurd z c
  subst z;rw [ar (λq=>c (eq_of_beq q))];exact e2
 refine⟨.bl (decide (ys=xs) || decide (zs=xs)),H,I,?_,q⟩
 show Value.bool _=Value.bool _
 congr 1
 by_cases c:l2=l1
 .subst c;have e3:=I.sS h1 h2;have e4:ys=zs:=by
   have:=congrArg (List.map λv:V=>match v with | .int n=>n | _=>0) e3
   simpa [fc,Function.comp_def] using this
  subst e4;simp
 simp [c]
end L2
namespace M11
open PySem L2
def EK (b:Str->Bool) (zs:z0t) (i:Nat):z0u:=((List.range i).filter λj=>!(zs[j]?.elim true b)).map λj:Nat=>(j:Int)
def zu (b:Str->Bool) (zs:z0t) (i:Nat){z:Str}(e:zs[i]?=some z):EK b zs (i+1)=EK b zs i++(if b z=true then [] else [(i:Int)]):=by
 unfold EK;rw [List.range_succ,pQ,bj]
 congr 1
 by_cases h:b z=true
 .rw [aw h];simp [e,h]
 rw [ar h];simp [e,h]
def Lu (b:Str->Bool) (zs:z0t) (i:Nat):(EK b zs i).length<=i:=by
 unfold EK;rw [au];have:=jk (λj=>!(zs[j]?.elim true b)) (List.range i);rw [qT] at this;exact this
def K0 (b:Str->Bool) (zs:z0t) (j:Nat):Bool:=decide ([]=EK b zs zs.length) || decide ([(j:Int)]=EK b zs zs.length)
def QH (aa:83) (names:z0t)(b:Str->Bool)(n:Str) (k j:Nat):Prop:=∃ru z,aa[k]?=some ru/\ru.1=n/\ru.2[j]?=some z/\z∈names/\K0 b ru.2 j=true
end M11
namespace L2
open PySem M11
def jw (p:Str×Addr):aN×V:=(Sum.inr p.1,.ref p.2)
theorem oo:∀(ps bX:87),((bX++ps).map 82).Nodup->di ps bX=bX++ps
 | [],bX,_=>by simp [di]
 | p::r,bX,h=>by
  have n:aZ bX p.1=none:=by
   cases e:aZ bX p.1 with
   | none=>rfl
   | some v =>
    have hm:=(eQ bX p.1).mp (by rw [e];rfl);rw [bj,cD] at h;exact absurd rfl ((iI.mp h).2.2 p.1 hm p.1 cR)
  show di r (bQ bX p.1 p.2)=_;rw [kO p.2 n,oo r (bX++[(p.1,p.2)]) (by rw [iu];exact h),iu];rfl
theorem gP:∀(ps:z0f),(ps.map 82).Nodup->∀p∈ps,aZ (ps.map jw) (Sum.inr p.1)=some (.ref p.2)
 | q::r,h,p,hp=>by
  rw [cD] at h ⊢;rcases b8.mp hp with z | z
  .rw [z];exact fh rfl
  rw [fj,gP r (g_.mp h).2 p z];intro e;have e':q.1=p.1:=kn e;exact(g_.mp h).1 (by rw [e'];exact iw z)
def lG (ps:z0f):(ps.map jw).map 82=(ps.map 82).map Sum.inr:=by
 rw [fc,fc];rfl
def tR {K:bp}{H:Hp}{p D:Addr}{zs:z0t}{σ:St}{x:Str}{Qp:Hp->Prop}(hp:aI K H p (148))(hz:zs.length<=10000)(hD:H D=none)
  (q:∀ts (ps:z0f) H2,aD H H2->H2 D=some 163->ps.map 82=zs->Paired (λt (p:Str×Addr)=>aY K H2 t [.str p.1,.ref p.2]) ts ps->(∀p∈ps,H2 p.2=some 132/\H p.2=none/\p.2≠D)->(ps.map (·.2)).Nodup->Qp H2) :
  ∃W:183,(∃m,W 0 m [] (dO [x] [] σ) 179) /\
 ∀i m ys σ' H,W i m ys σ' H->((jG K p).stop i H/\Qp H)\/((jG K p).go i H/\∃m',m' < m/\∀x H',(jG K p).lS i H x H'->dD 0 x σ' H' λσ2 H2=>hV σ2 H2 λb H3 =>
  if b=true then uu (gQ (gK 0) (gQ (QW qj) qj)) σ2 H3 182 else W (i+1) m' ys σ2 H3):=by
 refine bT (xs:=148) (λi ys σ2 H2=>∃(ts:z0q)(ps:z0f),ys=ts.map V.ref/\ts.length=i/\ps.map 82=zs.take i/\Paired (λt (p:Str×Addr)=>aY K H2 t [.str p.1,.ref p.2]) ts ps /\
   (∀p∈ps,H2 p.2=some 132/\H p.2=none/\p.2≠D)/\(ps.map (·.2)).Nodup/\(∃y0,σ2=[y0])/\aD H H2/\H2 D=some (.lst ys))
  ⟨[],[],rfl,rfl,rfl,.nil,85,85,⟨none,rfl⟩,af hD _,ae⟩ (λi ys σ2 H2 _ h=>?_) (λi x ys σ2 H2 ex h=>?_) (λys σ2 H2 h=>?_)
 .obtain⟨_,_,_,_,_,_,_,_,_,sm,_⟩:=h;exact sm.seq hp
 .obtain⟨ts,ps,rfl,ht,hm,jT,hl,hn,⟨y0,rfl⟩,sm,hd⟩:=h;rw [a0] at ex;obtain⟨z,ez,rfl⟩:=b0.mp ex;have li:=(bw.mp ez).1;refine goN (vq ?_);refine⟨_,rfl,uo,λl uA=>⟨qi,λt jH=>?_⟩⟩;have Of:l≠D:=(aC hd uA).symm;have nt:t≠l:=λe=>by rw [e,ae] at jH;cases jH
  have Sm:H2 t=none:=by rw [aj nt] at jH;exact jH
  have ntD:t≠D:=(aC hd Sm).symm;have jn:aD H2 (upd (upd H2 l 132) t (.tup [.str z,.ref l])):=(af uA _).trans (af jH _);have iW:=jn _ _ hd;have el:upd (upd H2 l 132) t (.tup [.str z,.ref l]) l=some 132:=by rw [aj nt.symm,ae]
  have et:aY K (upd (upd H2 l 132) t (.tup [.str z,.ref l])) t [.str z,.ref l]:=aY.of ae;generalize upd (upd H2 l 132) t (.tup [.str z,.ref l])=H4 at jn iW el et;refine⟨iW,176,ts++[t],ps++[(z,l)],by rw [bj];rfl,by rw [a8,ht];rfl,by rw [bj,hm,cO,ez];rfl,?_,?_,?_,⟨_,rfl⟩,?_,ae⟩
  .exact gk (Paired.b_ jT λt' h' z=>bz iW (jn.tup z)) (bz iW et)
  .intro p' pE;rcases bO.mp pE with h | h
   .obtain⟨a1,a2,a3⟩:=hl p' h;exact⟨by rw [aj a3];exact jn _ _ a1,a2,a3⟩
   rw [bA.mp h];exact⟨by rw [aj Of];exact el,sm.free uA,Of⟩
  .rw [bj];refine iI.mpr ⟨hn,85,λa ha b hb e=>?_⟩;rw [oU,bA] at hb;obtain⟨p',pE,rfl⟩:=bY.mp ha;have:=(hl p' pE).1;rw [e,hb] at this;rw [show H2 l=none from uA] at this;cases this
  intro b o hb;rw [203];exact jn _ _ (sm b o hb)
 obtain⟨ts,ps,rfl,ht,hm,jT,hl,hn,_,sm,hd⟩:=h;rw [au,cw] at hm;exact q ts ps H2 sm hd hm jT hl hn
def zI {K:bp}{H:Hp}{p D d:Addr}{zs:z0t}{kvs:87}{σ:St}{js:z0j}{Qp:Hp->Prop}(hσ:dO ["place","part"] js σ=[none,none,aE d])(hp:aY K H p (148))(hz:zs.length<=1000)
  (hd:H d=162)(hD:H D=none)(q:∀H2,aD H H2->H2 D=some (.lst ((EK (λz=>(aZ kvs 139).isSome) zs zs.length).map V.int))->Qp H2) :
  ∃W:183,(∃m,W 0 m [] (dO ["place","part"] js σ) 179) /\
 ∀i m ys σ' H,W i m ys σ' H->((ua K p).stop i H/\Qp H)\/((ua K p).go i H/\∃m',m' < m/\∀x H',(ua K p).lS i H x H'->zq K 2 (iT (dD 0) (iT (dD 1) BN)) x σ' H' λσ2 H2=>tB (Co (gK 1) (gK 2)) σ2 H2 λb H3 =>
  if b=true then gK 0 σ2 H3 182 else W (i+1) m' ys σ2 H3):=by
 refine zJ (xs:=148) (λi ys σ2 H2=>ys=(EK (λz=>(aZ kvs 139).isSome) zs i).map V.int/\(∃y0 y1,σ2=[y0,y1,aE d])/\aD H H2/\H2 D=some (.lst ys))
  ⟨rfl,⟨none,none,hσ⟩,af hD _,ae⟩ (λi ys σ2 H2 _ h=>h.2.2.1.tup hp) (λi x ys σ2 H2 t ex h ht=>?_) (λys σ2 H2 h=>?_)
 .obtain⟨rfl,⟨y0,y1,rfl⟩,sm,hd2⟩:=h;rw [a0] at ex;obtain⟨z,ez,rfl⟩:=b0.mp ex;have li:=(bw.mp ez).1;have jn:=sm.trans (af ht (.tup [149,.str z]));have iW:upd H2 t (.tup [149,.str z]) D=some (.lst ((EK (λz=>(aZ kvs 139).isSome) zs i).map V.int)):=by rw [aj (aC hd2 ht)];exact hd2
  have hv:aY K (upd H2 t (.tup [149,.str z])) t [149,.str z]:=aY.of ae;generalize upd H2 t (.tup [149,.str z])=H3 at jn iW hv;have fl:=Lu (λz=>(aZ kvs 139).isSome) zs i;refine⟨t,_,rfl,hv,rfl,_,_,rfl,_,_,rfl,rfl,?_⟩;refine⟨_,rfl,_,rfl,d,_,rfl,cg.k (k:=88) (jn _ _ hd),_,rfl,?_⟩;refine 184
  .refine⟨_,rfl,iW,176,?_,⟨_,_,rfl⟩,?_,ae⟩
   .rw [zu _ zs i ez,ar (λe=>by rw [e] at c;exact absurd c nofun),bj];rfl
   intro b o hb;rw [203];exact jn b o hb
  refine⟨?_,⟨_,_,rfl⟩,jn,iW⟩;rw [zu _ zs i ez,aw,d_];cases hq:(aZ kvs 139).isSome with
  | true=>rfl
  | false=>exact absurd (by rw [hq];rfl) c
 obtain⟨rfl,_,sm,hd2⟩:=h;rw [au] at hd2;exact q H2 sm hd2
open PySem PySem.Spec PyProof.Rows
def gT {X:Cx}{elt iter tg:Expr}{iy:Nat}{y:Str}{py Ra:Pos}{ifs:z0r}{scope:Scope}{pos:Pos}{wi:TI}{g:TG}{tif:TT}{te:TE}(ts:z0t)(js:z0j)(hN:X.N.Nodup)(hiy:X.N[iy]?=some y)(hy:X.env.scope.names.lookup y=some .local)(hc:X.calm=true)(hi:PI X tg iter wi)
  (cp:LY X scope js)(jA:∀y∈scope.names,y.2≠.cell)(jz:scope.kind=.function)
  (BI:∀y∈scope.names,y.2=.local->scope.names.lookup y.1=some .local)
  (hg:∀cl C s1 H1 fp,PG (tN X scope cl C s1 H1 (ts++js.map (·.2)) fp) tg g)
  (YK:∀cl C s1 H1 fp,E7 (tN X scope cl C s1 H1 (ts++js.map (·.2)) fp) ifs tif)(he:∀cl C s1 H1 fp,PE (tN X scope cl C s1 H1 (ts++js.map (·.2)) fp) elt te)
  (hsw:swapsWith (.ListComp elt [⟨tg,iter,ifs,0⟩] scope pos) (some (.Name y py)) Ra.line X.env=pure true:=by rfl)(hs:∀x,foldedSetIterable iter X.env x=pure x:=by intro _;rfl) :
  PS X (.Assign [.Name y py] (.ListComp elt [⟨tg,iter,ifs,0⟩] scope pos) Ra) (Q5 (FQ wi ts js g tif te) (dD iy)):=by
 intro ag s σ H DD I h;rw [exec_Assign_Name_used _ _ _ _ hsw];refine aA (wpAny_standAt (aA ?_));show wpAny _ _ (do let _ <-comprehension (.ListComp elt [⟨tg,iter,ifs,0⟩] scope pos) scope X.env _ (newList []) false (eval iter X.env) (some (assign (.Name y py) X.env))) _ _ s;obtain⟨cl,og⟩:=xT (env:=X.env) (scope:=scope) λy hy=>I.ok.has y (.inl (cp.all y hy));refine aA (dS (wpAny_comprehension_free (use:=some (assign (.Name y py) X.env)) (Q:=λ_ s'=>SP X ag DD .next s') rfl hs og.eq jz BI (dB (hi ag s σ H _ I h) λv s1 h1=>dB h1 λVa s2 h2=>?_)) (λ_ s' hq=>aH (aH hq)) λ_ _ e=>e);obtain⟨it,fp,tn,J,H2,e,I2,T,Jw,f2,h2⟩:=h2;subst e;obtain⟨W,⟨m0,w0⟩,turn⟩:=h2 s2.heap.objs.size I2.fresh;have Iu:∀b∈fp,b < s2.heap.objs.size:=λb hb=>by obtain⟨o,e,_⟩:=T.obj _ _ Jw b hb;exact bC e
 refine j5 (wpAny_newFunctionEnv jA (by intro y hy;simp at hy) (λh₁ BH xI=>?_) jz);dsimp only at BH xI ⊢;generalize OS:s2.heap.push { cls:=.type "list",dict:=none,data:=.seq ([]:z0n).toArray }=G2 at BH xI ⊢;have Lr:G2.objs.size=s2.heap.objs.size+1:=by rw [<-OS,oJ]
 have Qi:s2.heap.objs.size≠G2.objs.size:=by rw [Lr];exact bU (lQ _)
 have old:∀b o,s2.heap.get? b=some o->h₁.get? b=some o:=λb o e =>
  xI.extBut b o (by rw [Lr];exact bU (rp (bC e))) (b9 _ (OS ▸ b9 _ e))
 have mT:h₁.get? s2.heap.objs.size=some { cls:=.type "list",data:=.seq ([]:z0n).toArray 0 }:=xI.extBut _ _ Qi (b9 _ (OS ▸ dA _ rfl));generalize oh:tN X scope cl G2.objs.size s2 H2 (ts++js.map (·.2)) fp=X2;have I4:Inv X2 [] (dO ts js σ) (upd H2 s2.heap.objs.size 132) { s2 with heap:=h₁,toks:=s2.toks+([]:z0d).length }:=by
  rw [<-oh];exact vo I2 f2 Iu jz jA cp og (by rw [Lr];exact lQ _) rfl rfl old BH mT
 have x1:X2.prog=X.prog:=by rw [<-oh];rfl
 have x2:X2.w=X.w:=by rw [<-oh];rfl
 have x3:X2.K=X.K:=by rw [<-oh];rfl
 have x4:X2.calm=true:=by rw [<-oh];exact hc
 have x5:X2.A=X.A:=by rw [<-oh];rfl
 have x6:X2.env=compEnvC scope cl G2.objs.size X.env:=by rw [<-oh];rfl
 have x7:X2.xe=λ_ _=>False:=by rw [<-oh];rfl
 have YN:PG X2 tg g:=by rw [<-oh];exact hg _ _ _ _ _
 have OJ:E7 X2 ifs tif:=by rw [<-oh];exact YK _ _ _ _ _
 have C6:PE X2 elt te:=by rw [<-oh];exact he _ _ _ _ _
 have Q8:tn 0 h₁:=T.keep _ _ _ Jw λb _ o e=>old b o e;have rT:∀{H':Hp}{j6:z0e},(∀b∈fp,H' b=none)->(∀p∈j6,p.1∉fp)->∀b∈fp,ye X2 j6 H' b:=λ{H' j6} hn hp b hb=>by
  have o4:=I4.ok;subst oh;exact⟨hn b hb,(o4.Qn b hb).1,o4.EL b hb,.inl hb,(o4.Qn b hb).2,λp pE=>by
   have uz:p∈([]:z0e)++j6:=pE;rw [mw] at uz;intro z;exact hp p uz (by rw [z];exact hb)⟩
 have fin:∀{s':Shared}{σ':St}{H':Hp},Inv X2 [] σ' H' s'->DD.nx (σ.set iy (some (.ref s2.heap.objs.size))) H' ->
   compPost 145 X.A X.xe (some (assign (.Name y py) X.env)) (λ_ s'=>SP X ag DD .next s') (.ref s2.heap.objs.size) G2.objs.size (.ok .next) s':=λ{s' σ' H'} J' q=>by
  subst oh;obtain⟨m',C4,_⟩:=J'.loc;have I5:Inv X ag σ H' s':=I2.M5 (s':=s') J'.os J'.base J'.cu J'.bare λb hb=>by
   obtain⟨_,f1,_,f3,f4,f5⟩:=f2 b hb;exact⟨f3,f1,f4,f5⟩
  obtain⟨f0,f1,_,f3,f4,f5⟩:=I2.xK (H':=H') (b:=G2.objs.size) (by rw [Lr];exact oE _) J'.free;show wpAny _ _ (assign (.Name y py) X.env (.ref s2.heap.objs.size)) _ _ s';refine wpAny_assign_Name (uX I5 hN hiy (.inl hy) (v:=.ref s2.heap.objs.size) rfl (λRm I6 bI=>?_) (.inr hy));obtain⟨a,sb,ha⟩:=bI;have nCa:G2.objs.size≠a:=by
   rcases ha with ha | ha
   .rw [ha];exact f1
   exact(f4 _ _ ha).symm
  refine⟨m',C4.sameBut sb nCa,λh' K_=>?_⟩;exact⟨_,H',I6.turned (t':=Rm.toks) (λb o hb e=>(K_.2 b hb).trans e) f0 f1 f3 f4 f5,q⟩
 have loop:∀s₃:Shared,s₃={ s2 with heap:=h₁,toks:=s2.toks+([]:z0d).length } ->
   codeAny 145 X.A (.compLoop (.ListComp elt [⟨tg,iter,ifs,0⟩] scope pos) 0 (.ref it) (.ref s2.heap.objs.size) (compEnvC scope cl G2.objs.size X.env))
    (compPost 145 X.A X.xe (some (assign (.Name y py) X.env)) (λ_ s'=>SP X ag DD .next s') (.ref s2.heap.objs.size) G2.objs.size) s₃:=by
  rintro s₃ rfl;subst oh;refine qd (λn s'=>∃i ys σ' H',Inv 217 [] σ' H' s'/\tn i s'.heap/\(∀b∈fp,H' b=none)/\W i n ys σ' H') ?_ m0
   ⟨0,[],_,_,I4,Q8,λb hb=>by rw [aj (bU (Iu b hb))];exact(f2 b hb).1,w0⟩
  rintro n s' ⟨i,ys,σ0,H',J',uZ,Ti,w'⟩;rcases turn i n ys σ0 H' w' with ⟨stop,q⟩ | ⟨go,m',hm,step⟩
  .refine dS (T.done 217 rfl rfl rfl hc i [] s' _ H' (λ_ _=>False) J' (rT Ti 135) uZ stop) (λr s4 ⟨hr,J4⟩=>?_) λ_ _ z=>z;subst hr;exact fin J4 q
  refine dS (T.item 217 rfl rfl rfl hc i [] s' _ H' (λ_ _=>False) J' (rT Ti 135) uZ go) (λr s4 ⟨u,hr,h4⟩=>?_) λ_ _ z=>z;subst hr;refine dS h4 (λ_ s5 bI=>?_) λ_ _ z=>z;obtain⟨xv,H5,J5,r5,y5,DJ,Th⟩:=bI;have J5':=J5.pinned (rT Th 135) (T.obj _ _ DJ);have back:∀{s7:Shared}{σ7:St}{H7:Hp},Inv 217 ([]++o7 fp s5.heap) σ7 H7 s7->Inv 217 [] σ7 H7 s7/\tn (i+1) s7.heap/\∀b∈fp,H7 b=none:=λ{s7 σ7 H7} J7=>by
   refine⟨J7.kI,T.keep _ _ _ DJ λb hb o e=>(J7.pin (b,o) (dM _ (dM _ (ic hb e)))).1,λb hb=>?_⟩;obtain⟨o,e,d⟩:=T.obj _ _ DJ b hb;exact(J7.pin (b,o) (dM _ (dM _ (ic hb e)))).2.1
  show wpAny _ _ (assign tg (tN X scope cl G2.objs.size s2 H2 (ts++js.map (·.2)) fp).env u) _ _ s5;refine dS (YN _ s5 _ H5 xv u _ J5' r5 (step xv H5 y5)) (λ_ s6 bI=>?_) λ_ _ z=>z;obtain⟨σ6,H6,J6,q6⟩:=bI;refine dS (OJ _ s6 _ H6 _ J6 q6) (λb s7 bI=>?_) λ_ _ z=>z;obtain⟨H7,J7,q7⟩:=bI;cases b with
  | false =>
   rw [ar cQ] at q7 ⊢;obtain⟨J8,WK,Zl⟩:=back J7;exact⟨m',hm,i+1,ys,σ6,H7,J8,WK,Zl,q7⟩
  | true =>
   rw [aw rfl] at q7 ⊢;refine dS (C6 _ s7 _ H7 _ J7 q7) (λyv s8 bI=>?_) λ_ _ z=>z;obtain⟨y,H8,J8,r8,Y9,Qa,w8⟩:=bI;refine dS (cv (X:=tN X scope cl G2.objs.size s2 H2 (ts++js.map (·.2)) fp) _ s8 _ H8 (.ref s2.heap.objs.size) [y] (.ref s2.heap.objs.size) [yv] (λv H'=>W (i+1) m' (ys++[y]) σ6 H') J8 rfl (.cons r8 .nil) ⟨s2.heap.objs.size,ys,y,rfl,rfl,Y9,Qa,w8⟩)
    (λ_ s9 ⟨_,H9,J9,_,w9⟩=>?_) λ_ _ z=>z
   obtain⟨J10,Nu,OZ⟩:=back J9;exact⟨m',hm,i+1,ys++[y],σ6,H9,J10,Nu,OZ,w9⟩
 exact codeAny_compStart_list (loop _ rfl) (T.self _ _ _ _ _ Q8 (loop _ rfl))
end L2
namespace g9
open PySem L2 M11
section
def xy {l:z0t}(h:l.Nodup):(l.map (Sum.inr:Str->aN)).Nodup:=List.Pairwise.map _ (λa b hab e=>hab (kn e)) h
structure Fu (K:bp)(ps:z0f)(st:Str->z0g)(H:Hp)(d:Addr):Prop where
 hd:Rd H d (.dK (ps.map jw))
 n1:(ps.map 82).Nodup
 n2:(ps.map (·.2)).Nodup
 lst:∀p∈ps,∃ts,H p.2=some 163/\Paired (λt (e:Nat×Nat)=>aY K H t [.int (e.1:Int),.int (e.2:Int)]) ts (st p.1)
def Rd.same {H H':Hp}{a:Addr}{u:HO}(h:Rd H a u)(s:aD H H'):Rd H' a u:=h.elim (λz=>.inl (s _ _ z)) λ⟨o,z⟩=>.inr ⟨o,s _ _ z⟩
theorem Fu.same {ps:z0f}{st:Str->z0g}{H H':Hp}{d:Addr}(h:Fu K ps st H d)(s:aD H H'):Fu K ps st H' d :=
 ⟨Rd.same h.hd s,h.n1,h.n2,λp hp=>let ⟨ts,a,b⟩:=h.lst p hp;⟨ts,s _ _ a,Paired.b_ b λ_ _ z=>s.tup z⟩⟩
def vW (st:Str->z0g)(n:Str)(e:Nat×Nat):Str->z0g:=λz=>if z=n then st z++[e] else st z
def Fu.more {ps:z0f}{st:Str->z0g}{H:Hp}{d:Addr}(h:Fu K ps st H d){p:Str×Addr}(hp:p∈ps){ts:z0q}{t:Addr}{e:Nat×Nat}(a:H p.2=some 163)
  (b:Paired (λt (e:Nat×Nat)=>aY K H t [.int (e.1:Int),.int (e.2:Int)]) ts (st p.1))(c:aY K H t [.int (e.1:Int),.int (e.2:Int)]) :
  Fu K ps (vW st p.1 e) (upd H p.2 (.lst (ts.map V.ref++[.ref t]))) d:=by
 have nd:d≠p.2:=λz=>by
  rcases h.hd with q | ⟨o,q⟩
  .rw [z,a] at q;cases q
  rw [z,a] at q;cases q
 refine⟨?_,h.n1,h.n2,λp' pE=>?_⟩
 .rcases h.hd with q | ⟨o,q⟩
  .exact .inl (by rw [aj nd];exact q)
  exact .inr ⟨o,by rw [aj nd];exact q⟩
 by_cases z:p'=p
 .rw [z];refine⟨ts++[t],by rw [ae,bj];rfl,?_⟩;have e1:vW st p.1 e p.1=st p.1++[e]:=aw rfl;rw [e1];exact gk (Paired.b_ b λ_ _ z=>bz a z) (bz a c)
 have n1:p'.1≠p.1:=λq=>z (by
  have w1:=gP ps h.n1 p' pE;have w2:=gP ps h.n1 p hp;rw [q,w2] at w1;injection w1 with w3;injection w3 with w4;exact gN q w4.symm)
 have n2:p'.2≠p.2:=λq=>by
  obtain⟨i,hi,ei⟩:=qX.mp pE;obtain⟨j,hj,ej⟩:=qX.mp hp;have zo:i=j:=by
   refine(vY (xs:=ps.map (·.2)) (h₀:=by simpa using hi) (h₁:=by simpa using hj) h.n2).mp ?_;rw [oR,oR,ei,ej];exact q
  subst zo;exact z (ei.symm.trans ej)
 obtain⟨rR,a',b'⟩:=h.lst p' pE;refine⟨rR,by rw [aj n2];exact a',?_⟩;have e1:vW st p.1 e p'.1=st p'.1:=ar n1;rw [e1];exact Paired.b_ b' λ_ _ z=>bz a z
def Cy (K:bp):Sp:=λvs H Q _=>∃(R:Addr)(rs:z0q)(aa:83),vs=[.ref R]/\aI K H R 146/\bK K H rs aa/\aa.length<=1000/\198 /\
 ∀(d:Addr)(ps:z0f)(st:Str->z0g)(aL:z0h)(H':Hp),H d=none->aD H H'->H' d=some (.dK (ps.map jw))->Fu K ps st H' d->ps.map 82=hd aa->(∀p∈ps,H p.2=none)->uc aa aL->qz aa aa.length aL ->
  (∀n k j,n∈hd aa->((k,j)∈st n↔QH aa (hd aa) 195 n k j))->Q (.ref d) H'
def iZ:aK ["rules","empty","steps","number","rule","place","part","filled"] ["rules"] (ay AM):=152
def Hj (F:ir K "steps_with_like_rows" "steps_with_like_rows" AM f fd)(T:Txt mg)(GE:aF P w K mg base 1 "found_empties" ["rules"] (oY K))(GH:aF P w K mg base 1 "heads_of" ["rules"] (lB K)):bR P w K mg base fK 2 f fd ["rules"] (Cy K):=by
 refine F.ok iZ 157 161
 .obtain⟨R,rs,aa,rfl,_⟩:=h;rfl
 obtain⟨R,rs,aa,rfl,hR,cI,bN,h8,q⟩:=h;have hu:=fY hr;refine⟨_,ai (az (i:=1) iZ.nd rfl (Or.inr rfl) (bL (eZ rfl) rfl T.Dk gA (ab (bu GE hr rfl (ab (pv 0) ak)) ak)))
  (ai (az (i:=2) iZ.nd rfl 84 (bL (eZ rfl) rfl T.Dk gA (ab
   (aV ["name"] [] rfl (aR (bu GH hr rfl (ab (pv 0) ak))) (aS rfl rfl) nofun rfl nofun
    (λ_ _ _ _ _=>aq (i:=0) (show (["name"]:z0t).Nodup by decide +kernel) rfl 84) 177
    (λ_ _ _ _ _=>bW (ab (pv 0) (ab (bM ak) ak)))) ak)))
  (ai (bJ bV rfl (nY rfl T.Lv (ab (pv 0) ak)) (gq rfl (aB (aq (i:=3) iZ.nd rfl 84) (aB (aq (i:=4) iZ.nd rfl 84) bH)))
   (ai (gT (iy:=7) ["place","part"] [(1,"empty")] iZ.nd rfl rfl rfl (nX rfl T.Lv (ab (ba bE (pv 4) av 137) ak)) (aS rfl rfl) nofun rfl nofun
    (λ_ _ _ _ _=>dF (n:=2) K rfl (aB (aq (i:=0) (show (["place","part","empty"]:z0t).Nodup by decide +kernel) rfl 84) (aB (aq (i:=1) (show (["place","part","empty"]:z0t).Nodup by decide +kernel) rfl 84) bH)))
    (λ_ _ _ _ _=>gb (fw (dC hu (pv 1) (pv 2)))) (λ_ _ _ _ _=>pv 0))
   (ao (bJ bV rfl (nX rfl T.Lv (ab (ba bE (pv 4) av 137) ak)) (gq rfl (aB (aq (i:=5) iZ.nd rfl 84) (aB (aq (i:=6) iZ.nd rfl 84) bH)))
    (ao (cq (PW.pt (mH (fw (kQ hu (pv 6) (pv 2))) (jO (a_ (DX hu) (pv 7) (bW (ab (bM ak) (ab (bM (ab (pv 5) ak)) ak))) rfl))))
     (ao (cT (gX gw ix iz cv (fI hu (pv 2) (ba bE (pv 4) av 137) 137) (ab (bW (ab (pv 3) (ab (pv 5) ak))) ak)))) a7)))))
   )
  (ao (br (pv 2))))),?_⟩
 nofun
 have ll:=bc cI;refine⟨_,rfl,R,rs,aa,rfl,hR,cI,bN,h8,λD1 DI aL H1 f1 s1 e1 w1 emp mX=>?_⟩;have X8:Paired (λt (kv:aN×V)=>aY K H1 t [kV kv.1,kv.2]) DI (aL.map λp=>((Sum.inr p.1:aN),V.int (p.2:Int))):=cY w1 λ_ _ z=>z;refine⟨D1,DI,_,rfl,e1,X8,λe he=>?_⟩;have ekE:di (aL.map λp=>((Sum.inr p.1:aN),V.int (p.2:Int))) []=aL.map λp=>((Sum.inr p.1:aN),V.int (p.2:Int)):=oo _ [] (by
  rw [mw,fc];have:=xy emp.nd;rw [fc] at this;exact this)
 rw [ekE];have El:∀z,(aZ (aL.map λp=>((Sum.inr p.1:aN),V.int (p.2:Int))) 139).isSome=decide (z∈aL.map 82):=λz=>by
  rw [jf,eQ,decide_eq_true_iff,fc];have:(aL.map λp:Str×Nat=>(Sum.inr p.1:aN))=(aL.map 82).map Sum.inr:=by rw [fc];rfl
  show _∈(aL.map λp:Str×Nat=>(Sum.inr p.1:aN))↔_;rw [this];exact de
 generalize (aL.map λp=>((Sum.inr p.1:aN),V.int (p.2:Int)))=kE at El ⊢;have s2:=s1.trans (af he (.dK kE));have e2:upd H1 e (.dK kE) e=some (.dK kE):=ae;generalize upd H1 e (.dK kE)=H2 at s2 e2;refine⟨_,rfl,R,rs,aa,rfl,s2.seq hR,cI.same s2,bN,λD2 H3 f3 s3 e3=>?_⟩;have Om:=i5 (aa.map 82) [];simp only [j_,au] at Om;refine⟨D2,rfl,⟨_,aI.of e3⟩,λD3 OV=>tR (aI.of e3) ∅ OV λts ps H4 s4 e4 m4 p4 l4 n4=>?_⟩;have n1:(ps.map 82).Nodup:=by rw [m4];exact pI _ gE
 have Ic:Paired (λt (kv:aN×V)=>aY K H4 t [kV kv.1,kv.2]) ts (ps.map jw):=cY p4 λ_ _ z=>z;refine⟨D3,ts,_,rfl,e4,Ic,λd vp=>?_⟩;have TB:di (ps.map jw) []=ps.map jw:=oo _ [] (by
  rw [mw,lG];exact xy n1)
 rw [TB];have s5:=((s2.trans s3).trans s4).trans (af vp (.dK (ps.map jw)));have u9:=af vp (.dK (ps.map jw));have e5:upd H4 d (.dK (ps.map jw)) d=some (.dK (ps.map jw)):=ae;have TF:=u9 _ _ (s4 _ _ (s3 _ _ e2));have Ad:H d=none:=((s2.trans s3).trans s4).free vp;have S5:Fu K ps (λ_=>[]) (upd H4 d (.dK (ps.map jw))) d:=⟨.inl e5,n1,n4,λp hp=>⟨[],u9 _ _ (l4 p hp).1,.nil⟩⟩;have Qm:∀p∈ps,H p.2=none:=λp hp=>(s2.trans s3).free (l4 p hp).2.1;generalize upd H4 d (.dK (ps.map jw))=H5 at s5 e5 TF S5;clear u9;have eb:(λz=>(aZ kE 139).isSome)=λz=>decide (z∈aL.map 82):=funext El;refine⟨_,rfl,R,_,rfl,s5.seq hR,?_⟩
 let yd:t_:=λi σ H6=>∃(st:Str->z0g)(y3 y4 y5 y6 y7:Option V),σ=[aE R,aE e,aE d,y3,y4,y5,y6,y7]/\aD H H6/\H6 e=some (.dK kE)/\H6 d=some (.dK (ps.map jw))/\Fu K ps st H6 d /\
  (∀n,(st n).length<=8 * i)/\∀n k j,n∈hd aa->((k,j)∈st n↔k < i/\QH aa (hd aa) 195 n k j)
 refine k0 (xs:=138) yd
  ⟨λ_=>[],none,none,none,none,none,rfl,s5,TF,e5,S5,85,85⟩ ?_ ?_ ?_
 .rintro i σ H6 _ ⟨st,y3,y4,y5,y6,y7,rfl,s6,_⟩;exact s6.seq hR
 .rintro i x σ H6 t ex ⟨st,y3,y4,y5,y6,y7,rfl,s6,Pa,ZG,S6,l6,c6⟩ ht
  ac_nf0
  rw [a0] at ex;obtain⟨r,er,rfl⟩:=b0.mp ex;obtain⟨ru,tI,p,v1,v2⟩:=cI.get er;have kZ:=cC tI;have OW:=h8 ru kZ;have li:=(bw.mp tI).1;have z9:=af ht (.tup [149,.ref r]);have MH:aY K (upd H6 t (.tup [149,.ref r])) t [149,.ref r]:=aY.of ae;have s7:=s6.trans z9;have O_:=z9 _ _ Pa;have ed7:=z9 _ _ ZG;have S7:=S6.same z9;generalize upd H6 t (.tup [149,.ref r])=H7 at MH s7 O_ ed7 S7;refine⟨t,_,rfl,MH,rfl,_,_,rfl,_,_,rfl,rfl,?_⟩;refine⟨_,rfl,r,_,_,_,rfl,rfl,s7.tup v1,rfl,p,_,rfl,s7.tup v2,λD5 MO=>zI rfl (s7.tup v2) ∅ O_ MO λH8 PY e8=>?_⟩;rw [eb] at e8;have s8:=s7.trans PY;have ee8:=PY _ _ O_;have ed8:=PY _ _ ed7;have S8:=S7.same PY;have nD5:∀p∈ps,p.2≠D5:=λp hp z=>by
   obtain⟨rR,a,_⟩:=S7.lst p hp;rw [z,MO] at a;cases a
  obtain⟨pn,zk,Ae⟩:∃pn∈ps,pn.1=ru.1:=by
   have:ru.1∈ps.map 82:=by rw [m4];exact(ig _ _ _).mpr (.inr (iw kZ))
   obtain⟨pn,a,b⟩:=bY.mp this;exact⟨pn,a,b⟩
  refine⟨_,rfl,r,_,_,_,rfl,rfl,s8.tup v1,rfl,p,_,rfl,s8.tup v2,?_⟩
  let E9:t_:=λj σ H9=>∃(st:Str->z0g)(y5 y6:Option V),σ=[aE R,aE e,aE d,some (149),aE r,y5,y6,aE D5]/\aD H H9/\H9 e=some (.dK kE)/\H9 d=some (.dK (ps.map jw))/\Fu K ps st H9 d /\
   H9 D5=some (.lst ((EK 195 ru.2 ru.2.length).map V.int))/\(∀n,(st n).length<=8 * i+j)/\∀n k j',n∈hd aa->((k,j')∈st n↔(k < i\/(k=i/\j' < j))/\QH aa (hd aa) 195 n k j')
  refine pG (xs:=ru.2.map V.str) E9
   ⟨st,_,_,rfl,s8,ee8,ed8,S8,e8,λn=>l6 n,λn k j' hn=>by rw [c6 n k j' hn];simp⟩ ?_ ?_ ?_
  .rintro j σ H9 _ ⟨st,y5,y6,rfl,s9,_⟩;exact s9.tup v2
  .rintro j x σ H9 t2 iH ⟨st,y5,y6,rfl,s9,ZD,ZF,S9,e9,l9,c9⟩ jH
   ac_nf0
   rw [a0] at iH;obtain⟨z,ez,rfl⟩:=b0.mp iH;have lj:=(bw.mp ez).1;have yF:=af jH (.tup [.int (j:Int),.str z]);have Ij:aY K (upd H9 t2 (.tup [.int (j:Int),.str z])) t2 [.int (j:Int),.str z]:=aY.of ae;have ql:=s9.trans yF;have xQ:=yF _ _ ZD;have qw:=yF _ _ ZF;have Ft:=yF _ _ e9;have M_:=S9.same yF;generalize upd H9 t2 (.tup [.int (j:Int),.str z])=zW at Ij ql xQ qw Ft M_;have mem:(aZ (ps.map jw) 139).isSome=true↔z∈hd aa:=by rw [eQ,lG,m4];exact de
   have kM:¬(z∈hd aa/\K0 195 ru.2 j=true)->∀n k j',n∈hd aa->((k,j')∈st n↔(k < i\/(k=i/\j' < j+1))/\QH aa (hd aa) 195 n k j'):=λhn n k j' YC=>by
    rw [c9 n k j' YC];constructor
    .rintro⟨h1,h3⟩;exact⟨∅,h3⟩
    rintro⟨h1,h3⟩;refine⟨?_,h3⟩;by_cases c:k=i/\j'=j
    .obtain⟨A2,z',a1,a2,a3,a4,a5⟩:=h3;rw [c.1,tI] at a1;cases a1;rw [c.2] at a5;rw [c.2,ez] at a3;cases a3;exact absurd ⟨a4,a5⟩ hn
    omega
   have l9':∀n,(st n).length<=8 * i+(j+1):=λn=>by have:=l9 n;omega
   refine⟨t2,_,rfl,Ij,rfl,_,_,rfl,_,_,rfl,rfl,?_⟩;refine⟨_,rfl,_,rfl,d,_,rfl,cg.k (k:=88) qw,_,rfl,?_⟩;refine 184
   .have hz:=mem.mp c;refine⟨_,rfl,uo,λl1 hl1=>?_⟩;have Kg:=af hl1 132;have JN:upd zW l1 132 l1=some 132:=ae;have nl1:l1≠D5:=(aC Ft hl1).symm;generalize upd zW l1 132=Fb at Kg JN;refine⟨_,rfl,Fg,λl2 uA=>?_⟩;have AZ:=af uA (.lst [.int (j:Int)]);have MZ:upd Fb l2 (.lst [.int (j:Int)]) l2=some (.lst [.int (j:Int)]):=ae;have Xs:l2≠D5:=(aC (Kg _ _ Ft) uA).symm;generalize upd Fb l2 (.lst [.int (j:Int)])=zV at AZ MZ;refine⟨qi,λt3 Sm=>?_⟩;have NM:=af Sm (.tup [.ref l1,.ref l2]);have e13:aY K (upd zV t3 (.tup [.ref l1,.ref l2])) t3 [.ref l1,.ref l2]:=aY.of ae;generalize upd zV t3 (.tup [.ref l1,.ref l2])=Dx at NM e13;have qk:=(Kg.trans AZ).trans NM;refine⟨t3,D5,l1,l2,_,[],[(j:Int)],rfl,rfl,e13,aI.of (qk _ _ Ft),aI.of (NM _ _ (AZ _ _ JN)),aI.of (NM _ _ MZ),nl1,Xs,_,rfl,?_⟩;have Jm:=M_.same qk;have NL:=ql.trans qk;refine cf (λc2=>?_) (λc2=>?_)
    .obtain⟨tsn,an,bn⟩:=Jm.lst pn zk;have vn:=gP ps n1 pn zk;rw [Ae] at vn;have hg:cg Dx d (.str ru.1) (some (.ref pn.2)):=by
      have:=cg.k (k:=Sum.inr ru.1) (qk _ _ qw);rw [vn] at this;exact this
     have ltn:=bc bn;have l9n:=l9 pn.1;refine⟨_,rfl,_,rfl,r,_,_,_,rfl,rfl,NL.tup v1,rfl,d,_,rfl,hg,.inl ⟨rfl,_,aI.of an⟩,_,rfl,_,rfl,qi,λt4 Ey=>?_⟩;have qE:=af Ey (.tup [149,.int (j:Int)]);have e14:aY K (upd Dx t4 (.tup [149,.int (j:Int)])) t4 [149,.int (j:Int)]:=aY.of ae;generalize upd Dx t4 (.tup [149,.int (j:Int)])=H14 at qE e14;have Um:=Jm.same qE;have LM:=qE _ _ an;have aae:=Paired.b_ bn λt' (e':Nat×Nat)(z:aY K Dx t' [.int (e'.1:Int),.int (e'.2:Int)])=>qE.tup z;refine⟨pn.2,_,_,rfl,rfl,LM,176,?_⟩;have S15:=Um.more (e:=(i,j)) zk LM aae e14;have ne1:e≠pn.2:=λz=>by have:=qE _ _ (qk _ _ xQ);rw [z,LM] at this;cases this
     have ne2:d≠pn.2:=λz=>by have:=qE _ _ (qk _ _ qw);rw [z,LM] at this;cases this
     refine⟨vW st pn.1 (i,j),_,_,rfl,λb o hb=>?_,by rw [aj ne1];exact qE _ _ (qk _ _ xQ),by rw [aj ne2];exact qE _ _ (qk _ _ qw),S15,by rw [aj (nD5 pn zk).symm];exact qE _ _ (qk _ _ Ft),λn=>?_,λn k j' YC=>?_⟩
     .rw [aj (λz=>by rw [z,Qm pn zk] at hb;cases hb)];exact qE _ _ (NL b o hb)
     .have:=l9 n;unfold vW
      split
      .rw [a8];simp;omega
      omega
     have hit:QH aa (hd aa) 195 ru.1 i j:=⟨ru,z,tI,rfl,ez,hz,c2⟩;have M6:=c9 n k j' YC;unfold vW;by_cases cn:n=pn.1
     .rw [aw cn,bO,bA,M6];constructor
      .rintro(⟨h1,h3⟩ | h1)
       .exact⟨∅,h3⟩
       cases h1;exact⟨∅,by rw [cn,Ae];exact hit⟩
      rintro⟨h1,h3⟩;by_cases cc:k=i/\j'=j
      .exact .inr (by rw [cc.1,cc.2])
      exact .inl ⟨∅,h3⟩
     rw [ar cn,M6];constructor
     .rintro⟨h1,h3⟩;exact⟨∅,h3⟩
     rintro⟨h1,h3⟩;refine⟨?_,h3⟩;by_cases cc:k=i/\j'=j
     .obtain⟨A2,z',a1,a2,_⟩:=h3;rw [cc.1,tI] at a1;cases a1;exact absurd (a2.symm.trans Ae.symm) cn
     omega
    exact⟨st,_,_,rfl,NL,qk _ _ xQ,qk _ _ qw,Jm,qk _ _ Ft,l9',kM λ⟨_,h⟩=>c2 h⟩
   exact⟨st,_,_,rfl,ql,xQ,qw,M_,Ft,l9',kM λ⟨h,_⟩=>c (mem.mpr h)⟩
  rintro σ H9 ⟨st,y5,y6,rfl,s9,ZD,ZF,S9,e9,l9,c9⟩;rw [au] at l9 c9;refine⟨st,_,_,_,_,_,rfl,s9,ZD,ZF,S9,λn=>?_,λn k j' hn=>?_⟩
  .have:=l9 n;omega
  rw [c9 n k j' hn];constructor
  .rintro⟨h1 | ⟨h1,h2⟩,h3⟩
   .exact⟨∅,h3⟩
   exact⟨∅,h3⟩
  rintro⟨h1,h3⟩;refine⟨?_,h3⟩;by_cases c:k < i
  .exact .inl c
  refine .inr ⟨∅,?_⟩;obtain⟨A2,z',a1,_,a3,_⟩:=h3;have:k=i:=by omega
  rw [this,tI] at a1;cases a1;exact(bw.mp a3).1
 rintro σ H6 ⟨st,y3,y4,y5,y6,y7,rfl,s6,Pa,ZG,S6,l6,c6⟩;rw [au,ll] at c6;refine⟨_,rfl,q d ps st aL H6 Ad s6 ZG S6 m4 Qm emp mX λn k j hn=>?_⟩;rw [c6 n k j hn];constructor
 .exact λh=>h.2
 intro h;obtain⟨A2,_,a1,_⟩:=id h;exact⟨(bw.mp a1).1,h⟩
end
end g9
namespace L2
open PySem
def cg.r {H:Hp}{a:Addr}{kvs:87}{k:aN}(e:Rd H a (.dK kvs)):cg H a (kV k) (aZ kvs k):=.inl ⟨kvs,k,e,rfl,rfl⟩
end L2
namespace g9
open PySem L2 M11
section
def Down (aa:83) (names:z0t)(st:Str->z0g)(rk:Str->Nat):Prop:=∀n∈names,∀e∈st n,∃ru z,aa[e.1]?=some ru/\ru.2[e.2]?=some z/\z∈names/\rk z < rk n
def Mb (K:bp):Sp:=λvs H Q _=>∃(R d:Addr)(rs:z0q)(aa:83)(ps:z0f)(st:Str->z0g)(name:Str)(rk:Str->Nat),vs=[.ref R,.ref d,.str name]/\aI K H R 146/\bK K H rs aa/\aa.length<=1000 /\
 Fu K ps st H d/\ps.length<=1000/\name∈ps.map 82/\Down aa (ps.map 82) st rk/\∀(D:Addr)(H':Hp),H D=none->aD H H'->H' D=some 132->Q (.ref D) H'
structure LP (K:bp) (names:z0t)(rk:Str->Nat)(name:Str)(H H5:Hp)(D m:Addr)(oB:z0q)(ku:z0f) (ms:z0t)(kvs:87):Prop where
 sm:aD H H5
 hD:H5 D=some (.lst (oB.map V.ref))
 hm:H5 m=162
 keys:kvs.map 82=ms.map Sum.inr
 nd:ms.Nodup
 sub:∀x∈ms,x∈names
 wl:ku.length=ms.length+1
 wv:Paired (λt (e:Str×Addr)=>aY K H5 t [.str e.1,.ref e.2]) oB ku
 we:∀e∈ku,e.1∈names/\rk e.1<=rk name/\∃xs,H5 e.2=some (.lst xs)/\xs.length<=ku.length/\e.2≠D
def LP.len {names:z0t}{rk:Str->Nat}{name:Str}{H H5:Hp}{D m:Addr}{oB:z0q}{ku:z0f}{ms:z0t}{kvs:87}(h:LP K names rk name H H5 D m oB ku ms kvs):oB.length=ku.length/\kvs.length=ms.length/\ms.length<=names.length:=by
 refine⟨bc h.wv,?_,iF _ _ h.nd h.sub⟩;have:=congrArg List.length h.keys;simpa using this
def LP.more {names:z0t}{rk:Str->Nat}{name z:Str}{H H5 H9:Hp}{D m t c:Addr}{oB:z0q}{ku:z0f}{ms:z0t}{kvs:87}{xs:List V}(h:LP K names rk name H H5 D m oB ku ms kvs)(fD:H D=none)(fm:H m=none)
  (hz:z∈names)(hr:rk z<=rk name)(hn:z∉ms)(s:aD (upd H5 m (.dK (bQ kvs 139 (.bl true)))) H9)(ht:aY K H9 t [.str z,.ref c])(hc:H9 c=some (.lst xs))(hx:xs.length<=ku.length+1)(nc:c≠D) :
  LP K names rk name H (upd H9 D (.lst (oB.map V.ref++[.ref t]))) D m (oB++[t]) (ku++[(z,c)]) (ms++[z]) (bQ kvs 139 (.bl true)):=by
 have U8:D≠m:=λe=>by have:=h.hD;rw [e,h.hm] at this;cases this
 have yi:H9 D=some (.lst (oB.map V.ref)):=s _ _ (by rw [aj U8];exact h.hD);have hm9:H9 m=some (.dK (bQ kvs 139 (.bl true))):=s _ _ ae;refine⟨λb o hb=>?_,by rw [ae,bj];rfl,by rw [aj U8.symm];exact hm9,?_,?_,?_,?_,?_,?_⟩
 .rw [aj (λe=>by rw [e,fD] at hb;cases hb)];exact s _ _ (by rw [aj (λe=>by rw [e,fm] at hb;cases hb)];exact h.sm b o hb)
 .rw [i0 (by rw [h.keys];exact λe=>hn (de.mp e)),h.keys,bj];rfl
 .refine iI.mpr ⟨h.nd,85,λa ha b hb e=>?_⟩;rw [bA.mp hb] at e;exact hn (e ▸ ha)
 .intro x Yh;rcases bO.mp Yh with e | e
  .exact h.sub x e
  rw [bA.mp e];exact hz
 .rw [a8,a8,h.wl];rfl
 .exact gk (Paired.b_ h.wv λ_ _ e=>bz yi (s.tup (ij h.hm e))) (bz yi ht)
 intro e he;rw [a8];rcases bO.mp he with e' | e'
 .obtain⟨a,b,ys,c1,d1,n1⟩:=h.we e e';exact⟨a,b,ys,by rw [aj n1];exact s _ _ (by rw [aj (λq=>by rw [q,h.hm] at c1;cases c1)];exact c1),∅,n1⟩
 rw [bA.mp e'];exact⟨hz,hr,xs,by rw [aj nc];exact hc,hx,nc⟩
def nJ:aK ["rules","steps","name","ways","met","at","way","number","place","part"] ["rules","steps","name"] (ay NA):=152
def N9 (F:ir K "way_back" "way_back" NA f fd)(T:Txt mg):bR P w K mg base fK 1 f fd ["rules","steps","name"] (Mb K):=by
 refine F.ok nJ 157 161
 .obtain⟨R,d,rs,aa,ps,st,name,rk,rfl,_⟩:=h;rfl
 obtain⟨R,d,rs,aa,ps,st,name,rk,rfl,hR,cI,bN,S,JE,Il,Vt,q⟩:=h;have hu:=fY hr;refine⟨_,ai (az (i:=3) nJ.nd rfl 84 (bM (ab (bW (ab (pv 2) (ab (bM ak) ak))) ak)))
  (ai (az (i:=4) nJ.nd rfl 84 fR)
  (ai (az (i:=5) nJ.nd rfl 84 av)
  (ai (ip bV (a_ lV (pv 5) (aP aU rfl T.len ff (ab (pv 3) ak)) (cx _))
   (ai (az (i:=6) nJ.nd rfl 84 (ba bE (ba cU (pv 3) (pv 5) 137) av 137))
   (ai (bJ bV rfl (aR (fI hu (pv 1) (ba bE (ba cU (pv 3) (pv 5) 137) av 137) 137)) (gq rfl (aB (aq (i:=7) nJ.nd rfl 84) (aB (aq (i:=8) nJ.nd rfl 84) bH)))
    (ai (az (i:=9) nJ.nd rfl 84 (ba bE (ba bE (ba cU (pv 0) (pv 7) 137) av 137) (pv 8) 137))
    (ai (cq (a_ kR (pv 9) (pv 2) (cx _)) (ao iO) a7)
    (ao (cq (fw (dC hu (pv 9) (pv 4)))
     (ai (fC hu (pv 4) (pv 9) fq rfl) (ao (cT (gX gw ix iz cv (pv 3) (ab (bW (ab (pv 9) (ab (aQ jb (pv 6) (bM (ab (bW (ab (pv 7) (ab (pv 8) ak))) ak))) ak))) ak))))) a7)))))
   (ao (N0 (i:=5) nJ.nd rfl 84 av Ox)))))
  (ao (br (bM ak)))))),?_⟩
 nofun
 have C2:(ps.map 82).length=ps.length:=au _;refine⟨_,rfl,uo,λl0 Vm=>?_⟩;have s1:=af Vm 132;have e1:upd H l0 132 l0=some 132:=ae;generalize upd H l0 132=H1 at s1 e1;refine⟨qi,λt0 ht0=>?_⟩;have s2:=af ht0 (.tup [.str name,.ref l0]);have e2:aY K (upd H1 t0 (.tup [.str name,.ref l0])) t0 [.str name,.ref l0]:=aY.of ae;generalize upd H1 t0 (.tup [.str name,.ref l0])=H2 at s2 e2;refine⟨Fg,λD hD=>?_⟩;have s3:=af hD (.lst [.ref t0]);have e3:upd H2 D (.lst [.ref t0]) D=some (.lst ([t0].map V.ref)):=ae;have nl0:l0≠D:=aC (s2 _ _ e1) hD;generalize upd H2 D (.lst [.ref t0])=H3 at s3 e3;intro m hm;have s4:=af hm (.dK []);have e4:upd H3 m (.dK []) m=some (.dK []):=ae;generalize upd H3 m (.dK [])=H4 at s4 e4;have fD:H D=none:=(s1.trans s2).free hD;have fm:H m=none:=((s1.trans s2).trans s3).free hm;have W0:LP K (ps.map 82) rk name H H4 D m [t0] [(name,l0)] [] []:=⟨((s1.trans s2).trans s3).trans s4,s4 _ _ e3,e4,rfl,gE,85,rfl,.cons ((s3.trans s4).tup e2) .nil,λe he=>by
  rw [bA.mp he];exact⟨Il,aG _,[],s4 _ _ (s3 _ _ (s2 _ _ e1)),85,nl0⟩⟩
 refine⟨λmm σ H5=>∃(oB:z0q)(ku:z0f) (ms:z0t)(kvs:87) (at_:Nat)(y6 y7 y8 y9:Option V),σ=[aE R,aE d,some (.str name),aE D,aE m,some (.int (at_:Int)),y6,y7,y8,y9]/\LP K (ps.map 82) rk name H H5 D m oB ku ms kvs /\
  at_<=ku.length/\mm=1002 - at_,⟨1002,[t0],[(name,l0)],[],[],0,none,none,none,none,rfl,W0,85,rfl⟩,?_⟩
 rintro mm σ H5 ⟨oB,ku,ms,kvs,at_,y6,y7,y8,y9,rfl,W,hat,rfl⟩;obtain⟨lw,lk,lm⟩:=W.len;have aaw:=W.wl;refine⟨_,rfl,_,rfl,D,_,rfl,.inl (aI.of W.hD),_,_,rfl,rfl,_,rfl,?_⟩;refine 184
 .have c':=cW c;rw [au,lw] at c';have jd:at_ < ku.length:=by omega
  obtain⟨n,l,en⟩:∃n l,ku[at_]?=some (n,l):=⟨(ku[at_]).1,(ku[at_]).2,df jd⟩;obtain⟨t1,et1,Vf⟩:=Paired.at_ W.wv at_ (n,l) en;have at1:pK (oB.map V.ref) (at_:Int)=some (.ref t1):=cK (by rw [a0,et1];rfl);obtain⟨hn,hrn,xs,hl,hxl,Of⟩:=W.we (n,l) (cC en);dsimp only at hn hrn hl Of;obtain⟨pn,zk,Ae⟩:=bY.mp hn;have vn:=gP ps S.n1 pn zk;rw [Ae] at vn;obtain⟨tsn,an,bn⟩:=S.lst pn zk;rw [Ae] at bn;refine⟨λσ H5=>∃(oB:z0q)(ku:z0f) (ms:z0t)(kvs:87)(y6 y7 y8 y9:Option V),σ=[aE R,aE d,some (.str name),aE D,aE m,some (.int ((at_+1:Nat):Int)),y6,y7,y8,y9]/\LP K (ps.map 82) rk name H H5 D m oB ku ms kvs/\at_+1<=ku.length,?_,?_⟩
  .rintro σ H6 ⟨oB,ku,ms,kvs,y6,y7,y8,y9,rfl,W2,h2⟩;exact⟨1002 - (at_+1),∅,oB,ku,ms,kvs,at_+1,_,_,_,_,rfl,W2,h2,rfl⟩
  refine⟨_,rfl,_,rfl,D,_,_,_,rfl,rfl,aI.of W.hD,at1,t1,_,_,_,rfl,rfl,Vf,rfl,?_⟩;have hg:cg H5 d (.str n) (some (.ref pn.2)):=by
   have:=cg.r (k:=Sum.inr n) (Rd.same S.hd W.sm);rw [vn] at this;exact this
  refine⟨_,rfl,_,rfl,_,rfl,D,_,_,_,rfl,rfl,aI.of W.hD,at1,t1,_,_,_,rfl,rfl,Vf,rfl,d,_,rfl,hg,pn.2,rfl,⟨_,aI.of (W.sm _ _ an)⟩,?_⟩
  let yd:t_:=λi σ H6=>∃(oB:z0q)(ku:z0f) (ms:z0t)(kvs:87)(y7 y8 y9:Option V),σ=[aE R,aE d,some (.str name),aE D,aE m,some (.int (at_:Int)),aE l,y7,y8,y9]/\LP K (ps.map 82) rk name H H6 D m oB ku ms kvs /\
   at_+1<=ku.length/\∃e∈ku,e.2=l
  refine bP (xs:=tsn.map V.ref) yd ⟨oB,ku,ms,kvs,_,_,_,rfl,W,jd,(n,l),cC en,rfl⟩ ?_ ?_ ?_
  .rintro i σ H6 _ ⟨oB,ku,ms,kvs,y7,y8,y9,rfl,W2,_⟩;exact aI.of (W2.sm _ _ an)
  .rintro i x σ H6 ex ⟨oB,ku,ms,kvs,y7,y8,y9,rfl,W2,h2,e0,YU,ZE⟩
   ac_nf0
   rw [a0] at ex;obtain⟨ti,eti,rfl⟩:=b0.mp ex;have lbn:=bc bn;have lti:=(bw.mp eti).1;obtain⟨⟨k,j⟩,ekj⟩:∃e,(st n)[i]?=some e:=⟨(st n)[i]'∅,df ∅⟩;obtain⟨ti',Tt,hti⟩:=Paired.at_ bn i (k,j) ekj;rw [eti] at Tt;cases Tt;obtain⟨ru,z,er,ez,hz,hrk⟩:=Vt n hn (k,j) (cC ekj);obtain⟨r,Qo,p,v1,v2⟩:=Paired.at_ cI k ru er;have atr:pK 146 (k:Int)=some (.ref r):=cK (by rw [a0,Qo];rfl);have JQ:pK (ru.2.map V.str) (j:Int)=some (.str z):=cK (by rw [a0,ez];rfl);obtain⟨lw2,U9,lm2⟩:=W2.len;have aas:=W2.wl;refine⟨ti,_,rfl,W2.sm.tup hti,rfl,_,_,rfl,_,_,rfl,rfl,?_⟩;refine⟨_,rfl,_,rfl,R,_,_,_,rfl,rfl,W2.sm.seq hR,atr,r,_,_,_,rfl,rfl,W2.sm.tup v1,rfl,_,rfl,p,_,_,_,rfl,rfl,W2.sm.tup v2,JQ,?_⟩;refine⟨_,rfl,_,rfl,rfl,_,rfl,?_⟩;have nz:z≠name:=λe=>by rw [e] at hrk;omega
   refine cf (λc=>absurd (cW c) (λe=>nz (by injection e))) (λ_=>?_);have mem:(aZ kvs 139).isSome=true↔z∈ms:=by rw [eQ,W2.keys];exact de
   refine⟨_,rfl,_,rfl,m,_,rfl,cg.k (k:=88) W2.hm,_,rfl,?_⟩;refine 184
   .have nm:z∉ms:=λh=>by rw [mem.mpr h] at c;exact absurd c nofun
    refine⟨_,rfl,_,rfl,m,_,rfl,jX.k (k:=88) W2.hm (bB ∅),?_⟩;obtain⟨_,_,Fh,uA,aaB,Xs⟩:=W2.we e0 YU;rw [ZE] at uA Xs;have U8:D≠m:=λe=>by have:=W2.hD;rw [e,W2.hm] at this;cases this
    have nlm:l≠m:=λe=>by rw [e,W2.hm] at uA;cases uA
    have OU:upd H6 m (.dK (bQ kvs 139 (.bl true))) D=some (.lst (oB.map V.ref)):=by rw [aj U8];exact W2.hD
    have hlu:upd H6 m (.dK (bQ kvs 139 (.bl true))) l=some (.lst Fh):=by rw [aj nlm];exact uA
    refine⟨_,rfl,.inl ⟨rfl,_,aI.of OU⟩,_,rfl,_,rfl,_,rfl,_,rfl,qi,λt4 Ey=>?_⟩;have s4':=af Ey (.tup [.int (k:Int),.int (j:Int)]);generalize upd (upd H6 m (.dK (bQ kvs 139 (.bl true)))) t4 (.tup [.int (k:Int),.int (j:Int)])=H7 at s4';refine⟨Fg,λl4 hl4=>?_⟩;have s5':=af hl4 (.lst [.ref t4]);have e5':upd H7 l4 (.lst [.ref t4]) l4=some (.lst [.ref t4]):=ae;generalize upd H7 l4 (.lst [.ref t4])=H8 at s5' e5';have Gu:=s4'.trans s5';refine⟨l,l4,Fh,[.ref t4],rfl,rfl,Gu _ _ hlu,e5',fits (by simp;omega),λc0 hc0=>?_⟩;have s6':=af hc0 (.lst (Fh++[.ref t4]));have e6':upd H8 c0 (.lst (Fh++[.ref t4])) c0=some (.lst (Fh++[.ref t4])):=ae;have nc0:c0≠D:=(aC (Gu _ _ OU) hc0).symm;generalize upd H8 c0 (.lst (Fh++[.ref t4]))=H9 at s6' e6';refine⟨qi,λt5 Sl=>?_⟩;have WU:=af Sl (.tup [.str z,.ref c0]);have e7':aY K (upd H9 t5 (.tup [.str z,.ref c0])) t5 [.str z,.ref c0]:=aY.of ae;generalize upd H9 t5 (.tup [.str z,.ref c0])=zW at WU e7';have sA:=(Gu.trans s6').trans WU;refine⟨D,_,_,rfl,rfl,sA _ _ OU,176,?_⟩;exact⟨oB++[t5],ku++[(z,c0)],ms++[z],_,_,_,_,rfl,W2.more fD fm hz ∅ nm sA e7' (WU _ _ e6') (by rw [a8];simp;omega) nc0,by rw [a8];omega,e0,eI _ YU,ZE⟩
   exact⟨oB,ku,ms,kvs,_,_,_,rfl,W2,h2,e0,YU,ZE⟩
  rintro σ H6 ⟨oB,ku,ms,kvs,y7,y8,y9,rfl,W2,h2,_⟩;exact⟨_,rfl,_,_,rfl,rfl,oB,ku,ms,kvs,_,_,_,_,rfl,W2,h2⟩
 refine⟨uo,λD9 yi=>q D9 _ (W.sm.free yi) (W.sm.trans (af yi _)) ae⟩
end
end g9
namespace L2
open PySem PySem.Spec PyProof.Rows
section
variable {prog:Program}{w:World}{A:Around}{E:z0b}{s:Shared}
def zR (a b c:Value):argsOk "min" ⟨[a],[("key",b),("default",c)]⟩:=by unfold argsOk;kernel_rfl
def uH {l:Addr}{kf dv:Value}{Q:z0b}(hh:A.handled=none)(hl:s.heap.IsList l #[])(h:∀h' tk,(∀b o,158->h'.get? b=some o)->Q dv { s with heap:=h',toks:=tk }) :
  wpAny 150 A (call (.builtin "min") [.ref l] [("key",kf),("default",dv)]) Q E s:=by
 have Il:(toString "min" ++ toString ".loop":String) = "min.loop" := by decide
 refine ki (wk F.plain_min F.entry_min ?_);have core:wpAny 150 A.in1 (Builtin.«min» ⟨[.ref l],[("key",kf),("default",dv)]⟩) (λfin s'=>match fin with
   | .done f=>(match (Except.ok f:Result) with | .ok (.ret v)=>Q v s' | .ok _=>False | .error e=>E e s')
   | .again c'=>c'.quiet=true/\codeAny 150 A c' (λr s'=>match r with | .ok (.ret v)=>Q v s' | .ok _=>False | .error e=>E e s') s') E s:=by
  show wpAny _ A.in1 (Builtin.Builtins.bindParams "min" ["key","default"] 0 ⟨[],[("key",kf),("default",dv)]⟩ >>= _) _ _ s;refine aA (wpAny_of_eq (show Builtin.Builtins.bindParams "min" ["key","default"] 0 ⟨[],[("key",kf),("default",dv)]⟩=pure [some kf,some dv] from rfl) ?_);refine aA (aH ?_);refine aA (oP hl ?_);refine aA (j5 ?_);rw [Il];obtain⟨ol,h1,h2⟩:=id hl;generalize hG:s.heap.push { cls:=.type "list_iterator",data:=.fields #[.ref l,.int 0 0] }=G;have k1:∀b o,158->G.get? b=some o:=λb o e=>by rw [<-hG];exact b9 _ e
  have hi:G.get? s.heap.objs.size=some { cls:=.type "list_iterator",data:=.fields #[.ref l,.int 0 0] }:=by rw [<-hG];exact dA _ rfl
  refine aH ⟨kr F.plain_min_loop _,q0 F.entry_min_loop ?_⟩;rw [rA F.plain_min_loop _];show wpAny _ A.in1 (seqItems? (.ref G.objs.size) >>= _) _ _ _;refine aA (qZ (dA _ rfl) rfl ?_);show wpAny _ A.in1 (tryCatch (pyNext (180)) _ >>= _) _ _ _;refine aA (wpAny_tryCatch (wu (show A.in1.handled=none from hh) ⟨_,b9 _ hi,rfl,rfl⟩ ⟨ol,b9 _ (k1 _ _ h1),h2⟩ 135 λh' eb=>?_));refine aA (kj (aH ?_));exact h h' _ λb o e=>eb b o (bU (bC e)) (b9 _ (k1 b o e))
 simp only [checkBuiltinCall,F.kind_min];cases Yo:Manifest.signature? "min" with
 | none=>exact aH core
 | some sig =>
  have ha':Bind.checkArgs "min" sig ⟨[.ref l],[("key",kf),("default",dv)]⟩=pure ():=by have:=zR (.ref l) kf dv;simpa only [argsOk,Yo] using this
  simp only [ha'];exact aH core
end
def QU (K:bp)(t:TA)(td:TE):TE:=λσ H Q=>t σ H λvs H1=>td σ H1 λdv H2=>∃a,vs=[.ref a]/\aI K H2 a []/\Q dv H2
def Kn {X:Cx}{p pos lp X8 Ic:Pos}{e e2:Expr}{t:TA}{td:TE}(hc:X.calm=true)(hg:Gl X "min")(hm:X.mg "min"=none)(YM:Gl X "len")(Qe:X.mg "len"=none)(ha:PA X [e] t)(hd:PE X e2 td)
  (he:backTo pos (starEach [e] X.env)=(false,eval e X.env)::backTo pos (starEach [] X.env):=by rfl)(hp:(backTo pos (starEach [e] X.env)).any 82=false:=by rfl) :
  PE X (.Call (.Name "min" p) [e] [⟨some "key",.Name "len" lp,X8⟩,⟨some "default",e2,Ic⟩] pos) (QU X.K t td):=by
 intro ag s σ H Q I h;refine qV (jR I hg hm boot_min ?_);refine callWith_kw (dB (ha pos ag s σ H _ I h) λus s1 bI=>?_) he hp rfl rfl;obtain⟨vs,H1,I1,r1,q1⟩:=bI;refine kws_cons (jR I1 YM Qe ff (kws_cons (dB (hd ag s1 σ H1 _ I1 q1) λu2 s2 bI=>?_)));obtain⟨dv,H2,I2,r2,a,ev,hs,q⟩:=bI;refine kws_nil ?_;subst ev;obtain⟨u,rfl,rx⟩:=vals1 r1;cases (show u=Value.ref a from rx);obtain⟨aT,rv,pl,hz⟩:=I2.list hs;cases rv;exact uH (I2.ok.hd hc) pl.isList λh' tk kk=>⟨dv,H2,I2.kept (t':=tk) kk,r2,q⟩
open PySem
def EW {K:bp}{H:Hp}{p D:Addr}{ls:z0q}{σ:St}{x:Str}{Qp:Hp->Prop}(hp:H p=some (.lst (ls.map V.ref)))(hl:∀l∈ls,H l=some 132)(hD:H D=none)(q:∀H2,aD H H2->H2 D=some 132->Qp H2) :
  ∃W:183,(∃m,W 0 m [] (dO [x] [] σ) 179) /\
 ∀i m ys σ' H,W i m ys σ' H->((jG K p).stop i H/\Qp H)\/((jG K p).go i H/\∃m',m' < m/\∀x H',(jG K p).lS i H x H'->dD 0 x σ' H' λσ2 H2=>gK 0 σ2 H2 λx H'=>∃k,Jk K x H' k/\(λb H3 =>
  if b=true then gK 0 σ2 H3 182 else W (i+1) m' ys σ2 H3) k H'):=by
 refine bT (tif:=λσ H Q=>gK 0 σ H λx H'=>∃k,Jk K x H' k/\Q k H') (xs:=ls.map V.ref) (λi ys σ2 H5=>ys=[]/\(∃y0,σ2=[y0])/\aD H H5/\H5 D=some 132) ⟨rfl,⟨none,rfl⟩,af hD _,ae⟩ (λi ys σ2 H5 _ h=>aI.of (h.2.2.1 _ _ hp)) (λi x ys σ2 H5 ex h=>?_) (λys σ2 H5 h=>?_)
 .obtain⟨rfl,⟨y0,rfl⟩,s5,e5⟩:=h;rw [a0] at ex;obtain⟨l,el,rfl⟩:=b0.mp ex;refine goN ?_;refine⟨_,rfl,false,.inl ⟨[],aI.of (s5 _ _ (hl l (cC el))),rfl⟩,?_⟩;refine iS ?_;exact⟨rfl,⟨_,rfl⟩,s5,e5⟩
 obtain⟨rfl,_,s5,e5⟩:=h;exact q H5 s5 e5
end L2
namespace g9
open PySem L2 M11
section
def Cf (aa:83)(rk:Str->Nat):Prop:=∀aL,uc aa aL->qz aa aa.length aL->∀n k j,QH aa (hd aa) 195 n k j->∀ru z,aa[k]?=some ru->ru.2[j]?=some z->rk z < rk n
def FZ (K:bp):Sp:=λvs H Q _=>∃(R:Addr)(rs:z0q)(aa:83)(rk:Str->Nat),vs=[.ref R]/\aI K H R 146/\bK K H rs aa/\aa.length<=1000/\198/\Cf aa rk /\
 ∀(D:Addr)(H':Hp),H D=none->aD H H'->H' D=some 132->Q (.ref D) H'
def AJ:aK ["rules","steps","loops"] ["rules"] (ay Gm):=152
def KG (F:ir K "find_loop" "find_loop" Gm f fd)(T:Txt mg)(GS:aF P w K mg base 2 "steps_with_like_rows" ["rules"] (Cy K))(GW:aF P w K mg base 1 "way_back" ["rules","steps","name"] (Mb K)):bR P w K mg base fK 3 f fd ["rules"] (FZ K):=by
 refine F.ok AJ 157 161
 .obtain⟨R,rs,aa,rk,rfl,_⟩:=h;rfl
 obtain⟨R,rs,aa,rk,rfl,hR,cI,bN,h8,hnl,q⟩:=h;refine⟨_,ai (az (i:=1) AJ.nd rfl (Or.inr rfl) (bu GS hr rfl (ab (pv 0) ak)))
  (ai (gT (iy:=2) ["name"] [(0,"rules"),(1,"steps")] AJ.nd rfl rfl rfl (CQ (pv 1)) (aS rfl rfl) nofun rfl nofun
   (λ_ _ _ _ _=>aq (i:=0) (show (["name","rules","steps"]:z0t).Nodup by decide +kernel) rfl 84) 177
   (λ_ _ _ _ _=>bu (GW.mono (by decide:1<=2)) hr rfl (ab (pv 1) (ab (pv 2) (ab (pv 0) ak)))))
  (ao (br (Kn rfl rfl T.min rfl T.len (ab (aV ["loop"] [] rfl (aR (pv 2)) (aS rfl rfl) nofun rfl nofun
   (λ_ _ _ _ _=>aq (i:=0) (show (["loop"]:z0t).Nodup by decide +kernel) rfl 84) (λ_ _ _ _ _=>gb (DQ K (pv 0) (λ_=>rfl))) (λ_ _ _ _ _=>pv 0)) ak) (bM ak))))),?_⟩
 nofun
 refine⟨_,rfl,R,rs,aa,rfl,hR,cI,bN,h8,λd ps st aL H1 fd1 s1 e1 S1 m1 Qm emp mX hits=>?_⟩;have XR:ps.length<=1000:=by
  have h1:=congrArg List.length m1;have h2:=i5 (aa.map 82) [];simp only [j_,au] at h2;rw [au] at h1;have h3:(hd aa).length=(xS [] (aa.map 82)).length:=rfl;omega
 have Vt:Down aa (ps.map 82) st rk:=λn hn e he=>by
  rw [m1] at hn ⊢;have hit:=(hits n e.1 e.2 hn).mp he;obtain⟨ru,z,er,_,ez,hz,_⟩:=id hit;exact⟨ru,z,er,ez,hz,hnl aL emp mX n e.1 e.2 hit ru z er ez⟩
 refine⟨_,rfl,d,_,rfl,e1,λo D hD=>?_⟩;have P6:∀p∈ps,p.2≠d:=λp hp z=>by
  obtain⟨ts,a,_⟩:=S1.lst p hp;rw [z,e1] at a;cases a
 have s2:aD H (upd H1 d (.md o (.dK (ps.map jw)))):=λb u hb=>by
  rw [aj (λz=>by rw [z,fd1] at hb;cases hb)];exact s1 b u hb
 have S2:Fu K ps st (upd H1 d (.md o (.dK (ps.map jw)))) d:=⟨.inr ⟨o,ae⟩,S1.n1,S1.n2,λp hp=>by
  obtain⟨ts,a,b⟩:=S1.lst p hp;exact⟨ts,by rw [aj (P6 p hp)];exact a,Paired.b_ b λ_ _ z=>ij e1 z⟩⟩
 have e2:upd H1 d (.md o (.dK (ps.map jw))) d=some (.md o (.dK (ps.map jw))):=ae;generalize upd H1 d (.md o (.dK (ps.map jw)))=H2 at hD s2 S2 e2 ⊢;refine tS (λi ys σ2 H3=>∃ls:z0q,ys=ls.map V.ref/\ls.length=i/\(∀l∈ls,H3 l=some 132/\l≠D)/\(∃y0,σ2=[y0,aE R,aE d])/\aD H2 H3/\H3 D=some (.lst ys))
  ⟨[],rfl,rfl,85,⟨none,rfl⟩,af hD _,ae⟩ (λi ys σ2 H3 _ h=>?_) (λi kv ys σ2 H3 ex h=>?_) (λys σ2 H3 h=>?_)
 .obtain⟨_,_,_,_,_,sm,_⟩:=h;exact sm _ _ e2
 .obtain⟨ls,rfl,hls,hl,⟨y0,rfl⟩,sm,iW⟩:=h;rw [a0] at ex;obtain⟨p,ep,rfl⟩:=b0.mp ex;have hp:=cC ep;have li:=(bw.mp ep).1;refine goN (vq ?_);have s3:=s2.trans sm;refine⟨_,rfl,_,rfl,_,rfl,R,d,rs,aa,ps,st,p.1,rk,rfl,s3.seq hR,cI.same s3,bN,S2.same sm,XR,iw hp,Vt,λD4 H4 f4 s4 e4=>?_⟩;have C9:=s4 _ _ iW;have nD4:D4≠D:=λz=>by rw [z,iW] at f4;cases f4
  refine⟨C9,176,ls++[D4],by rw [bj];rfl,by rw [a8,hls];rfl,λl YH=>?_,⟨_,rfl⟩,λb u hb=>?_,ae⟩
  .rcases bO.mp YH with h | h
   .obtain⟨a1,a2⟩:=hl l h;exact⟨by rw [aj a2];exact s4 _ _ a1,a2⟩
   rw [bA.mp h];exact⟨by rw [aj nD4];exact e4,nD4⟩
  rw [203];exact s4 _ _ (sm b u hb)
 obtain⟨ls,rfl,hls,hl,_,sm,iW⟩:=h;have s3:=s2.trans sm;refine⟨_,rfl,D,rfl,⟨_,aI.of iW⟩,λD5 MO=>?_⟩;refine EW iW (λl YH=>(hl l YH).1) MO λH5 s5 e5=>?_;refine⟨uo,λD6 Za=>⟨D5,rfl,aI.of (af Za _ _ _ e5),?_⟩⟩;exact q D6 _ ((s3.trans s5).free Za) ((s3.trans s5).trans (af Za _)) ae
end
end g9
namespace L2
open PySem
def Ck {K:bp}{T:Addr}{pos:Pos}{qu:Str}{H H':Hp}{a:Addr}{xs:List V}(s:gB T H H')(t:Tab T pos qu H)(h:aY K H a xs):aY K H' a xs:=by
 obtain⟨ps,b,_⟩:=t;rcases h with (h | ⟨u,h⟩) | h
 .exact .inl (.inl (s _ _ (λz=>by rw [z,b] at h;cases h) h))
 .exact .inl (.inr ⟨u,s _ _ (λz=>by rw [z,b] at h;cases h) h⟩)
 exact .inr h
def CK {K:bp}{T:Addr}{pos:Pos}{qu:Str}{H H':Hp}{a:Addr}{xs:List V}(s:gB T H H')(t:Tab T pos qu H)(h:aI K H a xs):aI K H' a xs:=by
 obtain⟨ps,b,_⟩:=t;rcases h with (h | ⟨u,h⟩) | h
 .exact .inl (.inl (s _ _ (λz=>by rw [z,b] at h;cases h) h))
 .exact .inl (.inr ⟨u,s _ _ (λz=>by rw [z,b] at h;cases h) h⟩)
 exact .inr h
def Cn {T T':Addr}{pos pos':Pos}{qu Jx:Str}{H H':Hp}(s:gB T H H')(t:Tab T pos qu H)(h:Tab T' pos' Jx H)(n:T'≠T):Tab T' pos' Jx H':=by
 obtain⟨ps,b,_⟩:=t;obtain⟨Xa,a,o,c⟩:=h;refine⟨Xa,s _ _ n a,o,c.imp id ?_⟩;rintro⟨c',e,g⟩;exact⟨c',e,s _ _ (λz=>by rw [z,b] at g;cases g) g⟩
def tP {K:bp}{H:Hp}{p D:Addr}{zs:z0t}{σ:St}{js:z0j}{cs:List (Option V)}{tif:TT}{te:TE}{Qp:Hp->Prop}(hσ:dO ["name"] js σ=none::cs)(hp:aI K H p (148))(hD:H D=none)
  (ht:∀z∈zs,∀H2 Q,aD H H2->Q false H2->tif (some (.str z)::cs) H2 Q)(q:∀H2,aD H H2->H2 D=some 132->Qp H2) :
  ∃W:183,(∃m,W 0 m [] (dO ["name"] js σ) 179) /\
 ∀i m ys σ' H,W i m ys σ' H->((jG K p).stop i H/\Qp H)\/((jG K p).go i H/\∃m',m' < m/\∀x H',(jG K p).lS i H x H'->dD 0 x σ' H' λσ2 H2=>tif σ2 H2 λb H3 =>
  if b=true then te σ2 H3 182 else W (i+1) m' ys σ2 H3):=by
 refine bT (xs:=148) (λi ys σ2 H5=>ys=[]/\(∃y0,σ2=y0::cs)/\aD H H5/\H5 D=some 132) ⟨rfl,⟨none,hσ⟩,af hD _,ae⟩ (λi ys σ2 H5 _ h=>h.2.2.1.seq hp) (λi x ys σ2 H5 ex h=>?_) (λys σ2 H5 h=>?_)
 .obtain⟨rfl,⟨y0,rfl⟩,s5,e5⟩:=h;rw [a0] at ex;obtain⟨z,ez,rfl⟩:=b0.mp ex;refine goN ?_;refine ht z (cC ez) H5 _ s5 ?_;refine iS ?_;exact⟨rfl,⟨_,rfl⟩,s5,e5⟩
 obtain⟨rfl,_,s5,e5⟩:=h;exact q H5 s5 e5
end L2
namespace g9
open PySem L2 M11
section
structure Good (aa:83)(rk:Str->Nat)(b:Str->Int):Prop where
 least:∀g,dY M11.bl aa (zr aa) g->iC M11.bl aa g->∀h∈hd aa,∃n,g h=some n/\n<=60
 met:∀i_ ms,aa[0]?=some i_->i_.1∈ms->E8 aa aa.length ms->∀h∈hd aa,h∈ms
 loop:Cf aa rk
 VZ:ue aa b
 most:∀h∈hd aa,b h<=60
def mh (T1 T2:Addr)(H H':Hp):Prop:=∀b o,b≠T1->b≠T2->H b=some o->H' b=some o
def rX (K:bp)(T1 T2:Addr):Sp:=λvs H Q _=>∃(R S:Addr)(rs ss:z0q)(aa str:83)(rk:Str->Nat)(b:Str->Int),vs=[.ref R,.ref S]/\aI K H R 146/\bK K H rs aa/\aa.length<=1000/\198/\aa≠[] /\
 aI K H S (ss.map V.ref)/\bK K H ss str/\str.length<=1000/\(∀ru∈str,ru.2.length<=8)/\(str.flatMap (·.2)).Nodup/\Good aa rk b/\Tab T1 sR.2.2.2 z_ H/\Tab T2 Bs.2.2.2 Mu H/\T1≠T2 /\
 ∀H',mh T1 T2 H H'->Tab T1 sR.2.2.2 z_ H'->Tab T2 Bs.2.2.2 Mu H'->Q .d0 H'
def ik:aK ["rules","strengths","least","endless","met","unmet","steps","greatest","vast"] ["rules","strengths"] (ay xb):=152
def DZ {T1 T2:Addr}{tm:Tok}(F:ir K "refuse_faults" "refuse_faults" xb f fd)(T:Txt mg)(hM:mg "MOST_RULES"=some (.int 60 tm))(GT:aF P w K mg base 1 "refuse_twice" ["strengths"] (Cw K))(GL:aF P w K mg base 3 "least_sizes" ["rules"] (qA K T1))
  (GH:aF P w K mg base 1 "heads_of" ["rules"] (lB K))(GM:aF P w K mg base 1 "names_met" ["rules"] (Md K))(GF:aF P w K mg base 3 "find_loop" ["rules"] (FZ K))(GG:aF P w K mg base 3 "greatest_empty_sizes" ["rules"] (wU K T2)) :
  bR P w K mg base fK 4 f fd ["rules","strengths"] (rX K T1 T2):=by
 refine F.ok ik 157 161
 .obtain⟨R,S,rs,ss,aa,str,rk,b,rfl,_⟩:=h;rfl
 obtain⟨R,S,rs,ss,aa,str,rk,b,rfl,hR,cI,bN,h8,jU,hS,Vg,Yl,Yr,Yq,gd,Lq,Vw,nT,q⟩:=h;have hu:=fY hr;refine⟨_,ai (cq (GU (iN (pv 0) (λ_=>rfl))) (ao iO) a7)
  (ai (cT (bu (GT.mono (by decide:1<=3)) hr rfl (ab (pv 1) ak)))
  (ai (az (i:=2) ik.nd rfl (Or.inr rfl) (bu GL hr rfl (ab (pv 0) ak)))
  (ai (gT (iy:=3) ["name"] [(2,"least")] ik.nd rfl rfl rfl (aR (bu (GH.mono (by decide:1<=3)) hr rfl (ab (pv 0) ak))) (aS rfl rfl) nofun rfl nofun
   (λ_ _ _ _ _=>aq (i:=0) (show (["name","least"]:z0t).Nodup by decide +kernel) rfl 84) (λ_ _ _ _ _=>gb (fw (dC hu (pv 0) (pv 1)))) (λ_ _ _ _ _=>pv 0))
  (ai (cq (iN (pv 3) (λ_=>rfl)) (ao iO) a7)
  (ai (az (i:=4) ik.nd rfl (Or.inr rfl) (bu (GM.mono (by decide:1<=3)) hr rfl (ab (pv 0) ak)))
  (ai (gT (iy:=5) ["name"] [(4,"met")] ik.nd rfl rfl rfl (aR (bu (GH.mono (by decide:1<=3)) hr rfl (ab (pv 0) ak))) (aS rfl rfl) nofun rfl nofun
   (λ_ _ _ _ _=>aq (i:=0) (show (["name","met"]:z0t).Nodup by decide +kernel) rfl 84) (λ_ _ _ _ _=>gb (fw (dC hu (pv 0) (pv 1)))) (λ_ _ _ _ _=>pv 0))
  (ai (cq (iN (pv 5) (λ_=>rfl)) (ao iO) a7)
  (ai (az (i:=6) ik.nd rfl 84 (bu GF hr rfl (ab (pv 0) ak)))
  (ai (cq (iN (pv 6) (λ_=>rfl)) (ao iO) a7)
  (ai (az (i:=7) ik.nd rfl (Or.inr rfl) (bu GG hr rfl (ab (pv 0) ak)))
  (ai (gT (iy:=8) ["name"] [(2,"least"),(7,"greatest")] ik.nd rfl rfl rfl (aR (bu (GH.mono (by decide:1<=3)) hr rfl (ab (pv 0) ak))) (aS rfl rfl) nofun rfl nofun
   (λ_ _ _ _ _=>aq (i:=0) (show (["name","least","greatest"]:z0t).Nodup by decide +kernel) rfl 84) (λ_ _ _ _ _=>gb (a_ Hf (aP (vL rfl) rfl T.max PyProof.Rows.boot_max (ab (fI hu (pv 1) (pv 0) 137) (ab (iP hu (pv 2) (pv 0) av ⟨rfl,rfl,rfl,rfl⟩) ak))) (Kq (v:=.int 60) rfl hM ⟨tm,rfl⟩) (cx _))) (λ_ _ _ _ _=>pv 0))
  (ao (cq (iN (pv 8) (λ_=>rfl)) (ao iO) a7))))))))))))),?_⟩
 nofun
 have ll:=bc cI;obtain⟨i_,Lb⟩:∃i_,aa[0]?=some i_:=by
  cases aa with
  | nil=>exact absurd rfl jU
  | cons a r=>exact⟨a,rfl⟩
 have eR:(138).isEmpty=false:=by
  have l0:=(bw.mp Lb).1;cases rs with
  | nil=>simp at ll;omega
  | cons a r=>rfl
 refine⟨_,rfl,true,.inl ⟨_,hR,by rw [eR];rfl⟩,?_⟩;refine iS ?_;refine⟨_,rfl,S,ss,str,rfl,hS,Vg,Yl,Yr,Yq,λH1 s1=>?_⟩;have UM:=Lq.same s1;have t21:=Vw.same s1;refine⟨_,rfl,R,rs,aa,rfl,s1.seq hR,cI.same s1,bN,h8,UM,λdl kl ksl gl H2 fl s2 t12 el kkl vl stl sel _=>?_⟩;have JH:=CK s2 UM (s1.seq hR);have Ez:=(cI.same s1).keep λ_ _ z=>Ck s2 UM z;have t22:=Cn s2 UM t21 nT.symm;have hl:=gd.least gl stl sel;have S02:mh T1 T2 H H2:=λb o n1 _ hb=>s2 b o n1 (s1 b o hb);refine⟨_,rfl,R,rs,aa,rfl,JH,Ez,bN,λD3 H3 f3 s3 e3=>⟨D3,rfl,⟨_,aI.of e3⟩,λD4 hD4=>tP rfl (aI.of e3) hD4 (λz hz H' Q' s' hQ=>?_) λH4 s4 e4=>?_⟩⟩
 .obtain⟨n,en,_⟩:=hl z hz;have hg:cg H' dl (.str z) (some (.int n)):=by
   have:=cg.k (k:=88) (s' _ _ (s3 _ _ el));rw [vl,en] at this;exact this
  exact⟨_,rfl,_,rfl,dl,_,rfl,hg,_,rfl,hQ⟩
 refine⟨_,rfl,false,.inl ⟨[],aI.of e4,rfl⟩,?_⟩;refine iS ?_;have NK:=s3.trans s4;refine⟨_,rfl,R,rs,aa,i_,rfl,NK.seq JH,Ez.same NK,Lb,bN,h8,λdm km ms H5 f5 s5 em kkm DJ _ mc5=>?_⟩;have WW:=NK.trans s5;refine⟨_,rfl,R,rs,aa,rfl,WW.seq JH,Ez.same WW,bN,λD6 H6 f6 s6 e6=>⟨D6,rfl,⟨_,aI.of e6⟩,λD7 Y_=>tP rfl (aI.of e6) Y_ (λz hz H' Q' s' hQ=>?_) λH7 s7 e7=>?_⟩⟩
 .have hm:=gd.met i_ ms Lb DJ mc5 z hz;have hv:(aZ km 139).isSome=true:=by rw [eQ,kkm];exact de.mpr hm
  refine⟨_,rfl,_,rfl,dm,_,rfl,cg.k (k:=88) (s' _ _ (s6 _ _ em)),_,rfl,?_⟩;rw [hv];exact hQ
 refine⟨_,rfl,false,.inl ⟨[],aI.of e7,rfl⟩,?_⟩;refine iS ?_;have NJ:=(WW.trans s6).trans s7;refine⟨_,rfl,R,rs,aa,rk,rfl,NJ.seq JH,Ez.same NJ,bN,h8,gd.loop,λD8 H8 f8 s8 e8=>?_⟩;refine⟨_,rfl,false,.inl ⟨[],aI.of e8,rfl⟩,?_⟩;refine iS ?_;have Gv:=NJ.trans s8;have t18:=t12.same Gv;have Q7:=t22.same Gv;refine⟨_,rfl,R,rs,aa,b,rfl,Gv.seq JH,Ez.same Gv,bN,h8,gd.VZ,Q7,λdg kg ksg gg H9 f9 s9 t29 eg kkg vg jg _ _=>?_⟩;have hR9:=CK s9 Q7 (Gv.seq JH);have Ys:=(Ez.same Gv).keep λ_ _ z=>Ck s9 Q7 z;have WI:=Cn s9 Q7 t18 nT;have el8:=Gv _ _ el;have el9:=s9 _ _ (λz=>by obtain⟨ps,a,_⟩:=Q7;rw [<-z,el8] at a;cases a) el8;refine⟨_,rfl,R,rs,aa,rfl,hR9,Ys,bN,λD10 zW f10 ql Ft=>⟨D10,rfl,⟨_,aI.of Ft⟩,λD11 Zb=>tP rfl (aI.of Ft) Zb (λz hz H' Q' s' hQ=>?_) λFb Kg JN=>?_⟩⟩
 .obtain⟨n,en,aaD⟩:=hl z hz;have Lm:cg H' dl (.str z) (some (.int n)):=by
   have:=cg.k (k:=88) (s' _ _ (ql _ _ el9));rw [vl,en] at this;exact this
  have eg':=s' _ _ (ql _ _ eg);obtain⟨v,hv1,hv2⟩:∃v:Int,((gg z).map V.int).getD (.int 0)=.int v/\v<=60:=by
   cases e:gg z with
   | none=>exact⟨0,rfl,nofun⟩
   | some v=>exact⟨v,rfl,Int.le_trans (jg z v e).2.1 (gd.most z hz)⟩
  have YM:cg H' dg (.str z) ((gg z).map V.int):=by
   have:=cg.k (k:=88) eg';rw [vg] at this;exact this
  refine⟨_,rfl,_,rfl,dl,_,rfl,Lm,_,rfl,dg,rfl,.inl ⟨_,.inl eg'⟩,_,rfl,_,YM,?_⟩;rw [hv1];refine⟨n,v,rfl,_,_,rfl,rfl,_,rfl,?_⟩;rw [fg (by split <;> omega)]
  exact hQ
 refine⟨_,rfl,false,.inl ⟨[],aI.of JN,rfl⟩,?_⟩;refine iS ?_;have NH:=ql.trans Kg;exact q Fb (λc o n1 n2 hc=>NH c o (s9 c o n2 (Gv c o (S02 c o n1 n2 hc)))) (WI.same NH) (t29.same NH)
end
end g9
namespace M11
open PySem L2
abbrev Be:=Str×Str×Nat×Nat
def bq (aW:List Be):z0i:=aW.map λb=>(b.1,b.2.1)
def om (aW:List Be)(n:Str):z0t:=(aW.filter λb=>decide (b.1=n)).map (·.2.1)
def i9 (names:z0t)(aW:List Be)(z:Str):z0t:=if z∈names then om aW z else [z]
inductive um (aa:83) (names:z0t)(b:Str->Bool):List Be->Prop
 | nil:um aa names b []
 | snoc {aW:List Be}{k j:Nat}{ru:ax}{z w:Str}:um aa names b aW->aa[k]?=some ru->ru.2[j]?=some z->j < uE b ru.2->w∈i9 names aW z->(ru.1,w)∉bq aW->um aa names b (aW++[(ru.1,w,k,j)])
def pF {aW:List Be}{n w:Str}:w∈om aW n↔(n,w)∈bq aW:=by
 unfold om bq;rw [bY,bY];constructor
 .rintro⟨b,hb,rfl⟩;obtain⟨h1,h2⟩:=gF.mp hb;exact⟨b,h1,by rw [cW h2]⟩
 rintro⟨b,hb,e⟩;cases e;exact⟨b,gF.mpr ⟨hb,cE rfl⟩,rfl⟩
def Dc (aW:List Be)(b:Be)(n:Str):om (aW++[b]) n=om aW n++(if b.1=n then [b.2.1] else []):=by
 unfold om;rw [pQ,bj];by_cases c:b.1=n
 .rw [aw c];simp [c]
 rw [ar c];simp [c]
end M11
namespace g9
open PySem L2 M11
def LG:Stmt->List Stmt
 | .ClassDef _ _ _ b _ _ _ _ _ _ _=>b
 | _=>[]
abbrev Mt (st:Stmt) (i:Nat):Stmt:=(LG st).getD i (.Pass ⟨0,0,0,0⟩)
abbrev AW:Stmt:=Mt sr 0
abbrev Gq:Stmt:=Mt sr 1
abbrev AQ:Stmt:=Mt sr 2
abbrev xj:Stmt:=Mt yE 0
abbrev AN:Stmt:=Mt yE 1
section
structure BC (K:bp)(C:Addr):Prop where
 cls:Fe K C
 a1:dZ K C "empties"
 a2:dZ K C "empty"
 a3:dZ K C "begins"
 a4:dZ K C "firsts"
structure oC (K:bp)(C:Addr)(H0 H:Hp)(a e d bg:Addr)(kE:87)(aL:z0h)(ps:z0f)(aW:List Be):Prop where
 sm:aD H0 H
 ia:∃dx fs,H a=some (.ins C dx fs)/\fs.lookup ("empty":Str)=some (.ref e)/\fs.lookup ("begins":Str)=some (.ref bg)/\fs.lookup ("firsts":Str)=some (.ref d)/\fs.lookup ("find_begins":Str)=none/\(fs.lookup ("words_of_part":Str)=none/\fs.lookup ("first_words":Str)=none/\fs.lookup ("all_empty":Str)=none/\fs.lookup ("words_of_parts":Str)=none)
 he:H e=some (.dK kE)
 hd:H d=some (.dK (ps.map jw))
 n1:(ps.map 82).Nodup
 n2:(ps.map (·.2)).Nodup
 dk:∀p∈ps,(∃kvs,H p.2=162/\kvs.map 82=(om aW p.1).map Sum.inr)/\H0 p.2=none/\p.2≠e/\p.2≠d
 lb:∃ts,H bg=some 163/\Paired (λt (b:Be)=>aY K H t [.str b.1,.str b.2.1,.int (b.2.2.1:Int),.int (b.2.2.2:Int)]) ts aW
 fb:H0 bg=none
 em:∃e1 ts,(∃dx fs,H a=some (.ins C dx fs)/\fs.lookup ("empties":Str)=some (.ref e1))/\H e1=some 163/\oz K H ts aL/\e1≠bg
def oC.same {C:Addr}{H0 H H':Hp}{a e d bg:Addr}{kE:87}{aL:z0h}{ps:z0f}{aW:List Be}(h:oC K C H0 H a e d bg kE aL ps aW)(s:aD H H'):oC K C H0 H' a e d bg kE aL ps aW:=by
 refine⟨h.sm.trans s,?_,s _ _ h.he,s _ _ h.hd,h.n1,h.n2,λp hp=>?_,?_,h.fb,?_⟩
 .obtain⟨dx,fs,q,r,NW,NV,NU,NT⟩:=h.ia;exact⟨dx,fs,s _ _ q,r,NW,NV,NU,NT⟩
 .obtain⟨⟨kvs,q,r⟩,t⟩:=h.dk p hp;exact⟨⟨kvs,s _ _ q,r⟩,t⟩
 .obtain⟨ts,q,r⟩:=h.lb;exact⟨ts,s _ _ q,Paired.b_ r λ_ _ z=>s.tup z⟩
 obtain⟨e1,ts,⟨dx,fs,q1,q2⟩,q3,q4,q5⟩:=h.em;exact⟨e1,ts,⟨dx,fs,s _ _ q1,q2⟩,s _ _ q3,q4.keep λ_ _ z=>s.tup z,q5⟩
def wR (K:bp)(C:Addr):Sp:=λvs H Q _=>∃(H0:Hp)(a e d bg:Addr)(kE:87)(aL:z0h)(ps:z0f)(aW:List Be)(z:Str),vs=[.ref a,.str z]/\oC K C H0 H a e d bg kE aL ps aW /\
 ∀(D:Addr)(H':Hp),H D=none->aD H H'->H' D=some (.lst ((i9 (ps.map 82) aW z).map V.str))->Q (.ref D) H'
def J2:aK ["self","part"] ["self","part"] (ay AQ):=152
def Hm {C:Addr}(F:ir K "words_of_part" "BeginTable.words_of_part" AQ f fd)(T:Txt mg)(B:BC K C):bR P w K mg base fK 1 f fd ["self","part"] (wR K C):=by
 refine F.ok J2 157 161
 .obtain⟨H0,a,e,d,bg,kE,aL,ps,aW,z,rfl,_⟩:=h;rfl
 obtain⟨H0,a,e,d,bg,kE,aL,ps,aW,z,rfl,S,q⟩:=h;have hu:=fY hr;obtain⟨dx,fs,ea,f1,f2,f3,f4,f5⟩:=S.ia;refine⟨_,ao (br (kP (fw (kQ hu (pv 1) (dr (pv 0) rfl))) (bL (mY rfl) rfl T.lst gy (ab (fI hu (dr (pv 0) rfl) (pv 1) 137) ak)) (bM (ab (pv 1) ak)))),?_⟩;dsimp only [zC];have mem:(aZ (ps.map jw) 139).isSome=true↔z∈ps.map 82:=by rw [eQ,lG];exact de
 refine⟨_,rfl,_,rfl,a,C,dx,fs,_,rfl,ea,B.cls,B.a4,f3,d,_,rfl,cg.k (k:=88) S.hd,_,rfl,?_⟩;refine 184
 .have hz:=mem.mp c;obtain⟨p,hp,ep⟩:=bY.mp hz;obtain⟨⟨kvs,hk,kk⟩,_⟩:=S.dk p hp;have vn:=gP ps S.n1 p hp;rw [ep] at vn;have hg:cg H d (.str z) (some (.ref p.2)):=by
   have:=cg.k (k:=88) S.hd;rw [vn] at this;exact this
  refine⟨_,rfl,a,C,dx,fs,_,rfl,ea,B.cls,B.a4,f3,_,rfl,d,_,rfl,hg,p.2,kvs,rfl,hk,λD hD=>?_⟩;refine q D _ hD (af hD _) ?_;rw [ae,keys_str kk,ep];unfold i9;rw [aw hz]
 refine⟨_,rfl,Fg,λD hD=>?_⟩;refine q D _ hD (af hD _) ?_;rw [ae];unfold i9;rw [ar (λh=>c (mem.mpr h))];rfl
def oC.more {C:Addr}{H0 H H2:Hp}{a e d bg t:Addr}{kE kvs:87}{aL:z0h}{ps:z0f}{aW:List Be}{p:Str×Addr}{wd:Str}{k j:Nat}{ts:z0q}(h:oC K C H0 H a e d bg kE aL ps aW)(hp:p∈ps)(hk:H p.2=162)(kk:kvs.map 82=(om aW p.1).map Sum.inr)
  (hn:(p.1,wd)∉bq aW)(hb:H bg=some 163)(Qh:Paired (λt (b:Be)=>aY K H t [.str b.1,.str b.2.1,.int (b.2.2.1:Int),.int (b.2.2.2:Int)]) ts aW)
  (s:aD (upd H p.2 (.dK (bQ kvs (Sum.inr wd) (.bl true)))) H2)(ht:aY K H2 t [.str p.1,.str wd,.int (k:Int),.int (j:Int)]) :
  oC K C H0 (upd H2 bg (.lst (ts.map V.ref++[.ref t]))) a e d bg kE aL ps (aW++[(p.1,wd,k,j)]):=by
 have U7:bg≠p.2:=λz=>by rw [z,hk] at hb;cases hb
 have IA:H2 bg=some 163:=s _ _ (by rw [aj U7];exact hb);obtain⟨_,fp,npe,npd⟩:=h.dk p hp;have up:∀c o,c≠bg->c≠p.2->H c=some o->upd H2 bg (.lst (ts.map V.ref++[.ref t])) c=some o:=λc o n1 n2 q=>by
  rw [aj n1];exact s _ _ (by rw [aj n2];exact q)
 refine⟨λc o hc=>up c o (λz=>by rw [z,h.fb] at hc;cases hc) (λz=>by rw [z,fp] at hc;cases hc) (h.sm c o hc),?_,up _ _ (λz=>by have:=h.he;rw [z,hb] at this;cases this) npe.symm h.he,up _ _ (λz=>by have:=h.hd;rw [z,hb] at this;cases this) npd.symm h.hd,h.n1,h.n2,λp' pE=>?_,⟨ts++[t],by rw [ae,bj];rfl,?_⟩,h.fb,?_⟩
 .obtain⟨dx,fs,q,r,NW,NV,NU,NT⟩:=h.ia;exact⟨dx,fs,up _ _ (λz=>by rw [z,hb] at q;cases q) (λz=>by rw [z,hk] at q;cases q) q,r,NW,NV,NU,NT⟩
 .obtain⟨⟨mQ,q,r⟩,t'⟩:=h.dk p' pE;refine⟨?_,t'⟩;by_cases z:p'=p
  .rw [z];refine⟨bQ kvs (Sum.inr wd) (.bl true),by rw [aj U7.symm];exact s _ _ ae,?_⟩;rw [i0 (by rw [kk];exact λq=>hn (pF.mp (de.mp q))),kk,Dc,aw rfl,bj];rfl
  have n1:p'.1≠p.1:=λq'=>z (by
   have w1:=gP ps h.n1 p' pE;have w2:=gP ps h.n1 p hp;rw [q',w2] at w1;injection w1 with w3;injection w3 with w4;exact gN q' w4.symm)
  have n2:p'.2≠p.2:=λq'=>by
   obtain⟨i,hi,ei⟩:=qX.mp pE;obtain⟨j',hj,ej⟩:=qX.mp hp;have zo:i=j':=by
    refine(vY (xs:=ps.map (·.2)) (h₀:=by simpa using hi) (h₁:=by simpa using hj) h.n2).mp ?_;rw [oR,oR,ei,ej];exact q'
   subst zo;exact z (ei.symm.trans ej)
  refine⟨mQ,up _ _ (λz=>by rw [z,hb] at q;cases q) n2 q,?_⟩;rw [r,Dc,ar (λq'=>n1 q'.symm),d_]
 .exact gk (Paired.b_ Qh λ_ _ z=>bz IA (s.tup (ij hk z))) (bz IA ht)
 obtain⟨e1,te,⟨dx,fs,q1,q2⟩,q3,q4,q5⟩:=h.em;exact⟨e1,te,⟨dx,fs,up _ _ (λz=>by rw [z,hb] at q1;cases q1) (λz=>by rw [z,hk] at q1;cases q1) q1,q2⟩,up _ _ q5 (λz=>by rw [z,hk] at q3;cases q3) q3,q4.keep λ_ _ z=>bz IA (s.tup (ij hk z)),q5⟩
def OX (l m:List Be)(n:Str):om (l++m) n=om l n++om m n:=by
 unfold om;rw [pQ,bj]
def JV {names:z0t}(l m:List Be){z x:Str}(h:x∈i9 names l z):x∈i9 names (l++m) z:=by
 unfold i9 at h ⊢
 split
 .rename_i c
  rw [aw c] at h;rw [OX];exact eI _ h
 rename_i c
 rw [ar c] at h;exact h
def IF (aW:List Be)(n:Str):(om aW n).length<=aW.length:=by
 unfold om;rw [au];exact jk _ _
def I9 {n i:Nat}(h:i < n):(cnt n)[i]?=some (149):=by
 unfold cnt;rw [a0,List.getElem?_range h];rfl
def qR (n:Nat):(cnt n).length=n:=by unfold cnt;rw [au,qT]
def F4 (K:bp)(C:Addr):Sp:=λvs H Q _=>∃(H0:Hp)(a e d bg r:Addr)(kE:87)(aL:z0h)(ps:z0f)(aW:List Be) (k:Nat)(ru:ax)(aa:83),vs=[.ref a,.int (k:Int),.ref r]/\oC K C H0 H a e d bg kE aL ps aW/\Du K H0 r ru/\aa[k]?=some ru/\ru.2.length<=8 /\
 ru.1∈ps.map 82/\(∀xV:List Be,um aa (ps.map 82) (λz=>(aZ kE 139).isSome) xV->xV.length<=900000)/\um aa (ps.map 82) (λz=>(aZ kE 139).isSome) aW /\
 ∀(xV:List Be)(H':Hp),oC K C H0 H' a e d bg kE aL ps xV->um aa (ps.map 82) (λz=>(aZ kE 139).isSome) xV->aW.length<=xV.length->(xV.length=aW.length->xV=aW/\∀j z,j < uE (λz=>(aZ kE 139).isSome) ru.2->ru.2[j]?=some z->∀wd∈i9 (ps.map 82) aW z,(ru.1,wd)∈bq aW)->Q .d0 H'
def w6:aK ["self","number","rule","own","place","word"] ["self","number","rule"] (ay Gq):=152
def KL {C fW:Addr}{Tn:FuncData}(F:ir K "find_begins" "BeginTable.find_begins" Gq f fd)(T:Txt mg)(B:BC K C)(GP:aF P w K mg base 1 "first_places" ["parts","empty"] (yy K))(FW:bR P w K mg base fK 1 fW Tn ["self","part"] (wR K C))(MW:Meth K C "words_of_part" fW)(BW:Binds K Tn ["self","part"] []) :
  bR P w K mg base fK 2 f fd ["self","number","rule"] (F4 K C):=by
 refine F.ok w6 157 161
 .obtain⟨H0,a,e,d,bg,r,kE,aL,ps,aW,k,ru,aa,rfl,_⟩:=h;rfl
 obtain⟨H0,a,e,d,bg,r,kE,aL,ps,aW,k,ru,aa,rfl,S,⟨p,v1,v2⟩,er,h8,hh,hbd,YZ,q⟩:=h;have hu:=fY hr;refine⟨_,ai (az (i:=3) w6.nd rfl 84 (fI hu (dr (pv 0) rfl) (ba bE (pv 2) av 137) 137))
  (ao (bJ bV rfl (aR (bu GP hr rfl (ab (ba bE (pv 2) av 137) (ab (dr (pv 0) rfl) ak)))) (aq (i:=4) w6.nd rfl 84)
   (ao (bJ bV rfl (aR (nZ (pv 0) B.cls MW FW hr BW .nil lU (ab (ba bE (ba bE (pv 2) av 137) (pv 4) 137) ak))) (aq (i:=5) w6.nd rfl 84)
    (ao (cq (fw (dC hu (pv 5) (pv 3)))
     (ai (fC hu (pv 3) (pv 5) fq rfl)
     (ao (cT (gX gw ix iz cv (dr (pv 0) rfl) (ab (bW (ab (ba bE (pv 2) av 137) (ab (pv 5) (ab (pv 1) (ab (pv 4) ak))))) ak))))) a7)))))),?_⟩
 nofun
 obtain⟨pn,zk,Ae⟩:=bY.mp hh;have vn:=gP ps S.n1 pn zk;rw [Ae] at vn;obtain⟨dx,fs,ea,f1,f2,f3,f4,f5⟩:=S.ia;have hg:cg H d (.str ru.1) (some (.ref pn.2)):=by
  have:=cg.k (k:=Sum.inr ru.1) S.hd;rw [vn] at this;exact this
 refine⟨_,rfl,a,C,dx,fs,_,rfl,ea,B.cls,B.a4,f3,_,rfl,r,_,_,_,rfl,rfl,S.sm.tup v1,rfl,d,_,rfl,hg,?_⟩;refine⟨_,rfl,r,_,_,_,rfl,rfl,S.sm.tup v1,rfl,_,rfl,a,C,dx,fs,_,rfl,ea,B.cls,B.a2,f1,p,e,ru.2,kE,rfl,S.sm.tup v2,∅,S.he,λD5 H5 f6 s5 e5=>⟨D5,rfl,⟨_,aI.of e5⟩,?_⟩⟩;obtain⟨ts0,hb0,_⟩:=S.lb;have nDb:D5≠bg:=λz=>by rw [z,hb0] at f6;cases f6
 have fle:=BQ (λz=>(aZ kE 139).isSome) ru.2;generalize hb:(λz=>(aZ kE 139).isSome)=b at *;generalize hn:uE b ru.2=n at *
 let yd:t_:=λi σ H6=>∃(d6:List Be)(y4 y5:Option V),σ=[aE a,some (.int (k:Int)),aE r,some (.ref pn.2),y4,y5]/\oC K C H0 H6 a e d bg kE aL ps d6/\H6 D5=some (.lst (cnt n))/\um aa (ps.map 82) b d6/\aW.length<=d6.length /\
  (d6.length=aW.length->d6=aW/\∀j z,j < i->ru.2[j]?=some z->∀wd∈i9 (ps.map 82) aW z,(ru.1,wd)∈bq aW)
 refine bP (xs:=cnt n) yd ⟨aW,none,none,rfl,S.same s5,e5,YZ,aG _,λ_=>⟨rfl,λj z hj=>by omega⟩⟩ ?_ ?_ ?_
 .rintro i σ H6 _ ⟨d6,y4,y5,rfl,S2,e6,_⟩;exact aI.of e6
 .intro i x σ H6 ex mU
  ac_nf0
  obtain⟨d6,y4,y5,rfl,S2,e6,bg2,l2,c2⟩:=mU;have li:i < n:=by have:=(bw.mp ex).1;rw [qR] at this;exact this
  rw [I9 li] at ex;cases ex;have lz:i < ru.2.length:=by omega
  obtain⟨z,ez⟩:∃z,ru.2[i]?=some z:=⟨ru.2[i],df lz⟩;have JQ:pK (ru.2.map V.str) (i:Int)=some (.str z):=cK (by rw [a0,ez];rfl);obtain⟨Po,qM,Pe,g1,g2,g3,g4,g5⟩:=S2.ia;refine goN ?_
  ac_nf
  refine⟨_,rfl,a,Po,qM,rfl,Pe,g5.1,_,rfl,r,_,_,_,rfl,rfl,S2.sm.tup v1,rfl,_,rfl,p,_,_,_,rfl,rfl,S2.sm.tup v2,JQ,H0,a,e,d,bg,kE,aL,ps,d6,z,rfl,S2,λD6 H7 f7 s7 e7=>⟨D6,rfl,⟨_,aI.of e7⟩,?_⟩⟩;obtain⟨yf,IA,_⟩:=S2.lb;have nD6:D6≠bg:=λz=>by rw [z,IA] at f7;cases f7
  generalize K9:i9 (ps.map 82) d6 z=ws at *
  let E9:t_:=λm σ H8=>∃(l:List Be)(y5:Option V),σ=[aE a,some (.int (k:Int)),aE r,some (.ref pn.2),some (149),y5]/\oC K C H0 H8 a e d bg kE aL ps (d6++l)/\H8 D5=some (.lst (cnt n))/\H8 D6=some (.lst (ws.map V.str))/\um aa (ps.map 82) b (d6++l) /\
   (l=[]->∀wd∈ws.take m,(ru.1,wd)∈bq d6)
  refine bP (xs:=ws.map V.str) E9 ⟨[],_,rfl,by rw [d_];exact S2.same s7,s7 _ _ e6,e7,by rw [d_];exact bg2,λ_ wd h=>by simp at h⟩ ?_ ?_ ?_
  .rintro m σ H8 _ ⟨l,y5,rfl,S3,e8,e9,_⟩;exact aI.of e9
  .intro m x σ H8 ex mU
   ac_nf0
   obtain⟨l,y5,rfl,S3,e8,e9,T8,c3⟩:=mU;rw [a0] at ex;obtain⟨wd,ew,rfl⟩:=b0.mp ex;obtain⟨⟨kvs,hk,kk⟩,fp,npe,npd⟩:=S3.dk pn zk;obtain⟨UJ,Vv,Tb⟩:=S3.lb;have lim:=hbd _ T8;have ltk:kvs.length<=900000:=by
    have h1:=congrArg List.length kk;rw [au,au] at h1;have:=IF (d6++l) pn.1;omega
   have ltt:=bc Tb;have mem:(aZ kvs (Sum.inr wd)).isSome=true↔(ru.1,wd)∈bq (d6++l):=by rw [eQ,kk,de,pF,Ae]
   refine goN ?_
   ac_nf
   refine⟨_,rfl,_,rfl,pn.2,_,rfl,cg.k (k:=Sum.inr wd) hk,_,rfl,?_⟩;refine 184
   .have nm:(ru.1,wd)∉bq (d6++l):=λh=>by rw [mem.mpr h] at c;exact absurd c nofun
    refine⟨_,rfl,_,rfl,_,_,rfl,jX.k (k:=Sum.inr wd) hk (bB ∅),?_⟩;obtain⟨dx3,JJ,ZJ,k1,k2,k3,k4,k5⟩:=S3.ia;have nap:a≠pn.2:=λz=>by rw [z,hk] at ZJ;cases ZJ
    have U7:bg≠pn.2:=λz=>by rw [z,hk] at Vv;cases Vv
    have Pd:upd H8 pn.2 (.dK (bQ kvs (Sum.inr wd) (.bl true))) a=some (.ins C dx3 JJ):=by rw [aj nap];exact ZJ
    have hb4:upd H8 pn.2 (.dK (bQ kvs (Sum.inr wd) (.bl true))) bg=some (.lst (UJ.map V.ref)):=by rw [aj U7];exact Vv
    refine⟨_,rfl,a,C,dx3,JJ,_,rfl,Pd,B.cls,B.a3,k2,.inl ⟨rfl,_,aI.of hb4⟩,_,rfl,r,_,_,_,rfl,rfl,ij hk (S3.sm.tup v1),rfl,_,rfl,_,rfl,_,rfl,zl4,λt4 Ey=>?_⟩;have s4:=af Ey (.tup [.str ru.1,.str wd,.int (k:Int),149]);have e4:aY K (upd (upd H8 pn.2 (.dK (bQ kvs (Sum.inr wd) (.bl true)))) t4 (.tup [.str ru.1,.str wd,.int (k:Int),149])) t4 [.str ru.1,.str wd,.int (k:Int),149]:=aY.of ae;generalize upd (upd H8 pn.2 (.dK (bQ kvs (Sum.inr wd) (.bl true)))) t4 (.tup [.str ru.1,.str wd,.int (k:Int),149])=H9 at s4 e4;refine⟨bg,_,_,rfl,rfl,s4 _ _ hb4,176,?_⟩;have nm':(pn.1,wd)∉bq (d6++l):=by rw [Ae];exact nm
    have S4:=S3.more (k:=k) (j:=i) zk hk kk nm' Vv Tb s4 (by rw [Ae];exact e4);have MC:∀D ys,H8 D=some (.lst ys)->D≠bg->upd H9 bg (.lst (UJ.map V.ref++[.ref t4])) D=some (.lst ys):=λD ys hD nb=>by
     rw [aj nb];exact s4 _ _ (by rw [aj (λz=>by rw [z,hk] at hD;cases hD)];exact hD)
    rw [iu,Ae] at S4;refine⟨l++[(ru.1,wd,k,i)],_,rfl,S4,MC _ _ e8 nDb,MC _ _ e9 nD6,?_,λh=>by simp at h⟩;rw [<-iu];refine .snoc T8 er ez (by rw [hn];exact li) (JV d6 l (by rw [K9];exact cC ew)) nm
   refine⟨l,_,rfl,S3,e8,e9,T8,λhl x hx=>?_⟩;rw [cO,ew] at hx;rcases bO.mp hx with h | h
   .exact c3 hl x h
   rw [Option.toList_some,bA] at h;subst h;have hm:(ru.1,x)∈bq (d6++l):=mem.mp (by
    cases hq:(aZ kvs (Sum.inr x)).isSome with
    | true=>rfl
    | false=>exact absurd (by rw [hq];rfl) c)
   rw [hl,d_] at hm;exact hm
  rintro σ H8 ⟨l,y5,rfl,S3,e8,e9,T8,c3⟩;rw [au,cw] at c3;refine⟨d6++l,_,_,rfl,S3,e8,T8,by rw [a8];omega,λSM=>?_⟩;rw [a8] at SM;have Vm:l=[]:=List.length_eq_zero_iff.mp ∅;obtain⟨Tc,og⟩:=c2 ∅;rw [Vm,d_];refine⟨Tc,λj z' hj Zt wd hwd=>?_⟩;by_cases cj:j < i
  .exact og j z' cj Zt wd hwd
  have:j=i:=by omega
  subst this;rw [ez] at Zt;cases Zt;have:=c3 Vm wd (by rw [<-K9,Tc];exact hwd);rw [Tc] at this;exact this
 rintro σ H6 ⟨d6,y4,y5,rfl,S2,e6,bg2,l2,c2⟩;rw [qR] at c2;exact q d6 H6 S2 bg2 l2 c2
end
end g9
namespace L2
open PySem M11
def zH {K:bp}{H:Hp}{p D:Addr}{zs:z0t}{σ:St}{x:Str}{Qp:Hp->Prop}(hp:aI K H p (148))(hz:zs.length<=10000)(hD:H D=none)
  (q:∀ts (ps:z0f) H2,aD H H2->H2 D=some 163->ps.map 82=zs->Paired (λt (p:Str×Addr)=>aY K H2 t [.str p.1,.ref p.2]) ts ps->(∀p∈ps,H2 p.2=some (.dK [])/\H p.2=none/\p.2≠D)->(ps.map (·.2)).Nodup->Qp H2) :
  ∃W:183,(∃m,W 0 m [] (dO [x] [] σ) 179) /\
 ∀i m ys σ' H,W i m ys σ' H->((jG K p).stop i H/\Qp H)\/((jG K p).go i H/\∃m',m' < m/\∀x H',(jG K p).lS i H x H'->dD 0 x σ' H' λσ2 H2=>hV σ2 H2 λb H3 =>
  if b=true then uu (gQ (gK 0) (gQ (FO) qj)) σ2 H3 182 else W (i+1) m' ys σ2 H3):=by
 refine bT (xs:=148) (λi ys σ2 H2=>∃(ts:z0q)(ps:z0f),ys=ts.map V.ref/\ts.length=i/\ps.map 82=zs.take i/\Paired (λt (p:Str×Addr)=>aY K H2 t [.str p.1,.ref p.2]) ts ps /\
   (∀p∈ps,H2 p.2=some (.dK [])/\H p.2=none/\p.2≠D)/\(ps.map (·.2)).Nodup/\(∃y0,σ2=[y0])/\aD H H2/\H2 D=some (.lst ys))
  ⟨[],[],rfl,rfl,rfl,.nil,85,85,⟨none,rfl⟩,af hD _,ae⟩ (λi ys σ2 H2 _ h=>?_) (λi x ys σ2 H2 ex h=>?_) (λys σ2 H2 h=>?_)
 .obtain⟨_,_,_,_,_,_,_,_,_,sm,_⟩:=h;exact sm.seq hp
 .obtain⟨ts,ps,rfl,ht,hm,jT,hl,hn,⟨y0,rfl⟩,sm,hd⟩:=h;rw [a0] at ex;obtain⟨z,ez,rfl⟩:=b0.mp ex;have li:=(bw.mp ez).1;refine goN (vq ?_);refine⟨_,rfl,λl uA=>⟨qi,λt jH=>?_⟩⟩;have Of:l≠D:=(aC hd uA).symm;have nt:t≠l:=λe=>by rw [e,ae] at jH;cases jH
  have Sm:H2 t=none:=by rw [aj nt] at jH;exact jH
  have ntD:t≠D:=(aC hd Sm).symm;have jn:aD H2 (upd (upd H2 l (.dK [])) t (.tup [.str z,.ref l])):=(af uA _).trans (af jH _);have iW:=jn _ _ hd;have el:upd (upd H2 l (.dK [])) t (.tup [.str z,.ref l]) l=some (.dK []):=by rw [aj nt.symm,ae]
  have et:aY K (upd (upd H2 l (.dK [])) t (.tup [.str z,.ref l])) t [.str z,.ref l]:=aY.of ae;generalize upd (upd H2 l (.dK [])) t (.tup [.str z,.ref l])=H4 at jn iW el et;refine⟨iW,176,ts++[t],ps++[(z,l)],by rw [bj];rfl,by rw [a8,ht];rfl,by rw [bj,hm,cO,ez];rfl,?_,?_,?_,⟨_,rfl⟩,?_,ae⟩
  .exact gk (Paired.b_ jT λt' h' z=>bz iW (jn.tup z)) (bz iW et)
  .intro p' pE;rcases bO.mp pE with h | h
   .obtain⟨a1,a2,a3⟩:=hl p' h;exact⟨by rw [aj a3];exact jn _ _ a1,a2,a3⟩
   rw [bA.mp h];exact⟨by rw [aj Of];exact el,sm.free uA,Of⟩
  .rw [bj];refine iI.mpr ⟨hn,85,λa ha b hb e=>?_⟩;rw [oU,bA] at hb;obtain⟨p',pE,rfl⟩:=bY.mp ha;have:=(hl p' pE).1;rw [e,hb] at this;rw [show H2 l=none from uA] at this;cases this
  intro b o hb;rw [203];exact jn _ _ (sm b o hb)
 obtain⟨ts,ps,rfl,ht,hm,jT,hl,hn,_,sm,hd⟩:=h;rw [au,cw] at hm;exact q ts ps H2 sm hd hm jT hl hn
def gR {K:bp}{H:Hp}{D a C dx:Addr}{xs:List V}{fs:List (Str×V)}{o:HO}(hD:H D=some (.ins C dx fs))(h:aY K H a xs):aY K (upd H D o) a xs:=by
 rcases h with (h | ⟨u,h⟩) | h
 .exact .inl (.inl (by rw [aj (λz=>by rw [z,hD] at h;cases h)];exact h))
 .exact .inl (.inr ⟨u,by rw [aj (λz=>by rw [z,hD] at h;cases h)];exact h⟩)
 exact .inr h
def zF {K:bp}{H:Hp}{R D:Addr}{rs:z0q}{es:z0h}{σ:St}{x1 x2:Str}{Qp:Hp->Prop}(hR:aI K H R 146)(cI:Paired (λt (e:Str×Nat)=>aY K H t [.str e.1,.int (e.2:Int)]) rs es)(bN:es.length<=1000)(hD:H D=none)
  (q:∀ts H2,aD H H2->H2 D=some 163->Paired (λt h=>aY K H2 t [.str h,.bl true]) ts (es.map 82)->Qp H2) :
  ∃W:183,(∃m,W 0 m [] (dO [x1,x2] [] σ) 179) /\
 ∀i m ys σ' H,W i m ys σ' H->((jG K R).stop i H/\Qp H)\/((jG K R).go i H/\∃m',m' < m/\∀x H',(jG K R).lS i H x H'->zq K 2 (iT (dD 0) (iT (dD 1) BN)) x σ' H' λσ2 H2=>hV σ2 H2 λb H3 =>
  if b=true then uu (gQ (gK 0) (gQ (tC (.bl true)) qj)) σ2 H3 182 else W (i+1) m' ys σ2 H3):=by
 have ll:=bc cI;refine bT (xs:=138) (λi ys σ2 H2=>∃ts:z0q,ys=ts.map V.ref/\ts.length=i/\Paired (λt h=>aY K H2 t [.str h,.bl true]) ts ((es.take i).map 82)/\(∃y0 y1,σ2=[y0,y1])/\aD H H2/\H2 D=some (.lst ys))
  ⟨[],rfl,rfl,.nil,⟨none,none,rfl⟩,af hD _,ae⟩ (λi ys σ2 H2 _ h=>?_) (λi x ys σ2 H2 ex h=>?_) (λys σ2 H2 h=>?_)
 .obtain⟨_,_,_,_,_,sm,_⟩:=h;exact sm.seq hR
 .obtain⟨ts,rfl,ht,hp,⟨y0,y1,rfl⟩,sm,hd⟩:=h;rw [a0] at ex;obtain⟨r,er,rfl⟩:=b0.mp ex;have lr:=(bw.mp er).1;obtain⟨ru,e1⟩:∃ru,es[i]?=some ru:=⟨es[i]'∅,df ∅⟩;obtain⟨r',Tv,v1⟩:=Paired.at_ cI i ru e1;rw [er] at Tv;cases Tv;have li:=(bw.mp e1).1;refine⟨r,_,rfl,sm.tup v1,rfl,_,_,rfl,_,_,rfl,rfl,?_⟩;refine vq ?_;refine⟨_,rfl,qi,λt jH=>⟨?_,176,ts++[t],?_,?_,?_,⟨_,_,rfl⟩,?_,ae⟩⟩
  .rw [aj (aC hd jH)];exact hd
  .rw [bj];rfl
  .rw [a8,ht];rfl
  .rw [cO,e1,bj];have iW:upd H2 t (.tup [.str ru.1,.bl true]) D=some 163:=by rw [aj (aC hd jH)];exact hd
   exact gk (Paired.b_ hp λt' h' z=>bz iW ((af jH _).tup z)) (bz iW (aY.of ae))
  intro b o hb;rw [203];exact af jH _ _ _ (sm b o hb)
 obtain⟨ts,rfl,ht,hp,_,sm,hd⟩:=h;rw [au,ll,cw] at hp;exact q ts H2 sm hd hp
end L2
namespace M11
open PySem L2
def um.sub {aa:83}{names:z0t}{b:Str->Bool}{aW:List Be}(h:um aa names b aW):∀q∈bq aW,q.1∈aa.map 82/\q.2∈aa.flatMap (·.2):=by
 induction h with
 | nil=>intro q hq;cases hq
 | @snoc aW k j ru z wd hb er ez _ hw _ ih =>
  intro q hq;unfold bq at hq;rw [bj] at hq;rcases bO.mp hq with hq | hq
  .exact ih q hq
  rw [oU,bA] at hq;rw [hq];have hm:=cC er;refine⟨iw hm,?_⟩;unfold i9 at hw
  split at hw
  .exact(ih (z,wd) (pF.mp hw)).2
  rw [bA.mp hw];exact jh.mpr ⟨ru,hm,cC ez⟩
def um.nd {aa:83}{names:z0t}{b:Str->Bool}{aW:List Be}(h:um aa names b aW):(bq aW).Nodup:=by
 induction h with
 | nil=>exact gE
 | @snoc aW k j ru z wd hb er ez _ hw hn ih =>
  unfold bq;rw [bj];refine iI.mpr ⟨ih,85,λx hx y hy e=>?_⟩;rw [oU,bA] at hy;rw [e,hy] at hx;exact hn hx
theorem yH (m:z0t):∀l:z0t,(l.flatMap λn=>m.map λwd=>(n,wd)).length=l.length * m.length
 | []=>85
 | n::l=>by
  rw [pO,a8,yH m l,au,dI,Nat.add_mul];omega
def um.len {aa:83}{names:z0t}{b:Str->Bool}{aW:List Be}(h:um aa names b aW)(hl:aa.length<=100)(h8:∀ru∈aa,ru.2.length<=8):aW.length<=80000:=by
 have h1:=iF (bq aW) ((aa.map 82).flatMap λn=>(aa.flatMap (·.2)).map λwd=>(n,wd)) h.nd λq hq=>by
  obtain⟨a,c⟩:=h.sub q hq;exact jh.mpr ⟨q.1,a,bY.mpr ⟨q.2,c,rfl⟩⟩
 rw [yH] at h1;have h2:=g9.jD aa 100 hl h8;unfold bq at h1;rw [au,au] at h1;have h3:aa.length * (aa.flatMap (·.2)).length<=100 * 800:=Nat.mul_le_mul hl h2;omega
def z5 (aa:83) (names:z0t)(b:Str->Bool) (n:Nat)(aW:List Be):Prop:=∀k ru,k < n->aa[k]?=some ru->∀j z,j < uE b ru.2->ru.2[j]?=some z->∀wd∈i9 names aW z,(ru.1,wd)∈bq aW
end M11
namespace g9
open PySem L2 M11
section
def CH (K:bp)(C:Addr):Sp:=λvs H Q _=>∃(H0:Hp)(a dx R:Addr)(rs:z0q)(aa:83),vs=[.ref a,.ref R]/\aD H0 H/\H0 a=none/\H a=some (.ins C dx [])/\aI K H0 R 146/\bK K H0 rs aa/\aa.length<=100/\198 /\
 ∀(e d bg:Addr)(kE:87)(aL:z0h)(ps:z0f)(aW:List Be)(H':Hp),oC K C H0 H' a e d bg kE aL ps aW->ps.map 82=hd aa->uc aa aL->qz aa aa.length aL->(∀z,(aZ kE 139).isSome=decide (z∈aL.map 82)) ->
  um aa (hd aa) 195 aW->z5 aa (hd aa) 195 aa.length aW->Q .d0 H'
def nP:aK ["self","rules","number","many","rule"] ["self","rules"] (ay AW):=152
def Hw {C fF:Addr}{To:FuncData}(F:ir K "__init__" "BeginTable.__init__" AW f fd)(T:Txt mg)(B:BC K C)(GE:aF P w K mg base 1 "found_empties" ["rules"] (oY K))(GH:aF P w K mg base 1 "heads_of" ["rules"] (lB K))
  (FF:bR P w K mg base fK 2 fF To ["self","number","rule"] (F4 K C))(MF:Meth K C "find_begins" fF)(BF:Binds K To ["self","number","rule"] []):bR P w K mg base fK 3 f fd ["self","rules"] (CH K C):=by
 refine F.ok nP 157 161
 .obtain⟨H0,a,dx,R,rs,aa,rfl,_⟩:=h;rfl
 obtain⟨H0,a,dx,R,rs,aa,rfl,s0,f0,ea,hR,cI,bN,h8,q⟩:=h;refine⟨_,ai (gU (pv 0) (bu (GE.mono (by decide:1<=2)) hr rfl (ab (pv 1) ak)) rfl)
  (ai (gU (pv 0) (bL (eZ rfl) rfl T.Dk gA (ab (aV ["name","number"] [] rfl (aR (dr (pv 0) rfl)) (aS rfl rfl) nofun rfl nofun
   (λ_ _ _ _ _=>dF (n:=2) K rfl (aB (aq (i:=0) (show (["name","number"]:z0t).Nodup by decide +kernel) rfl 84) (aB (aq (i:=1) (show (["name","number"]:z0t).Nodup by decide +kernel) rfl 84) bH))) 177
   (λ_ _ _ _ _=>bW (ab (pv 0) (ab fq ak)))) ak)) rfl)
  (ai (gU (pv 0) (bM ak) rfl)
  (ai (gU (pv 0) (bL (eZ rfl) rfl T.Dk gA (ab (aV ["name"] [] rfl (aR (bu (GH.mono (by decide:1<=2)) hr rfl (ab (pv 1) ak))) (aS rfl rfl) nofun rfl nofun
   (λ_ _ _ _ _=>aq (i:=0) (show (["name"]:z0t).Nodup by decide +kernel) rfl 84) 177
   (λ_ _ _ _ _=>bW (ab (pv 0) (ab fR ak)))) ak)) rfl)
  (ai (az (i:=3) nP.nd rfl 84 (yK rQ av))
  (ao (ip bV (a_ lV (pv 3) (aP aU rfl T.len ff (ab (dr (pv 0) rfl) ak)) (cx _))
   (ai (az (i:=3) nP.nd rfl 84 (aP aU rfl T.len ff (ab (dr (pv 0) rfl) ak)))
   (ao (bJ bV rfl (nY rfl T.Lv (ab (pv 1) ak)) (gq rfl (aB (aq (i:=2) nP.nd rfl 84) (aB (aq (i:=4) nP.nd rfl 84) bH)))
    (ao (cT (nZ (pv 0) B.cls MF FF hr BF .nil lU (ab (pv 2) (ab (pv 4) ak)))))))))))))),?_⟩
 nofun
 have ll:=bc cI;refine⟨_,rfl,R,rs,aa,rfl,s0.seq hR,cI.same s0,∅,h8,λD1 DI aL H1 f1 s1 e1 w1 emp mX=>?_⟩;have ZK:=s1 _ _ ea;refine⟨_,rfl,a,C,dx,[],rfl,ZK,B.cls,B.a1,(by show 0 < 1000;decide),?_⟩;have e2:upd H1 a (.ins C dx (dU "empties" (.ref D1) [])) D1=some (.lst (DI.map V.ref)):=by rw [aj (λz=>by rw [z,ZK] at e1;cases e1)];exact e1
 have w2:oz K (upd H1 a (.ins C dx (dU "empties" (.ref D1) []))) DI aL:=w1.keep λ_ _ z=>gR ZK z;have Gw:aD H0 (upd H1 a (.ins C dx (dU "empties" (.ref D1) []))):=λc o hc=>by rw [aj (λz=>by rw [z,f0] at hc;cases hc)];exact s1 _ _ (s0 c o hc)
 have Pe:upd H1 a (.ins C dx (dU "empties" (.ref D1) [])) a=some (.ins C dx (dU "empties" (.ref D1) [])):=ae;generalize upd H1 a (.ins C dx (dU "empties" (.ref D1) []))=H2 at e2 w2 Gw Pe;have lets:=emp.len;refine⟨_,rfl,a,C,dx,_,_,rfl,Pe,B.cls,B.a1,rfl,D1,rfl,⟨_,aI.of e2⟩,λD2 jI=>zF (aI.of e2) w2 ∅ jI λyf H3 s3 e3 p3=>?_⟩;have kp:Paired (λt (kv:aN×V)=>aY K H3 t [kV kv.1,kv.2]) yf ((aL.map 82).map λh=>((Sum.inr h:aN),V.bl true)):=cY p3 λ_ _ z=>z;refine⟨D2,yf,_,rfl,e3,kp,λe he=>?_⟩;have El:∀z,(aZ (di ((aL.map 82).map λh=>((Sum.inr h:aN),V.bl true)) []) 139).isSome=decide (z∈aL.map 82):=λz=>by
  rw [rO];by_cases c:z∈aL.map 82
  .rw [aw c,cE c];rfl
  rw [ar c,fg c];rfl
 generalize di ((aL.map 82).map λh=>((Sum.inr h:aN),V.bl true)) []=kE at El;have yG:=(Gw.trans s3).trans (af he (.dK kE));have Pd:=af he (.dK kE) _ _ (s3 _ _ Pe);have VM:upd H3 e (.dK kE) e=some (.dK kE):=ae;have NK:aD H2 (upd H3 e (.dK kE)):=s3.trans (af he (.dK kE));generalize upd H3 e (.dK kE)=H4 at yG Pd VM NK;have Z9:=NK _ _ e2;have wE4:oz K H4 DI aL:=w2.keep λ_ _ z=>NK.tup z;refine⟨_,rfl,a,C,dx,_,rfl,Pd,B.cls,B.a2,(by show 1 < 1000;decide),?_⟩;generalize YR:dU "empty" (.ref e) (dU "empties" (.ref D1) [])=lH;have TF:upd H4 a (.ins C dx lH) e=some (.dK kE):=by rw [aj (λz=>by rw [z,Pd] at VM;cases VM)];exact VM
 have CL:aD H0 (upd H4 a (.ins C dx lH)):=λc o hc=>by rw [aj (λz=>by rw [z,f0] at hc;cases hc)];exact yG c o hc
 have ea5:upd H4 a (.ins C dx lH) a=some (.ins C dx lH):=ae;have Z8:upd H4 a (.ins C dx lH) D1=some (.lst (DI.map V.ref)):=by rw [aj (λz=>by rw [z,Pd] at Z9;cases Z9)];exact Z9
 have wE5:oz K (upd H4 a (.ins C dx lH)) DI aL:=wE4.keep λ_ _ z=>gR Pd z;generalize upd H4 a (.ins C dx lH)=H5 at TF CL ea5 Z8 wE5;refine⟨uo,λbg OP=>?_⟩;have fbg:H0 bg=none:=CL.free OP;have VN:upd H5 bg 132 bg=some 132:=ae;have Mf:=CL.trans (af OP 132);have Pa:=af OP 132 _ _ TF;have Qr:=af OP 132 _ _ ea5;have XD:D1≠bg:=aC Z8 OP;have VX:=af OP 132 _ _ Z8;have wE6:oz K (upd H5 bg 132) DI aL:=wE5.keep λ_ _ z=>(af OP 132).tup z;generalize upd H5 bg 132=H6 at VN Mf Pa Qr VX wE6;refine⟨_,rfl,a,C,dx,_,rfl,Qr,B.cls,B.a3,(by rw [<-YR];show 2 < 1000;decide),?_⟩;generalize hf7:dU "begins" (.ref bg) lH=Ls;have O_:upd H6 a (.ins C dx Ls) e=some (.dK kE):=by rw [aj (λz=>by rw [z,Qr] at Pa;cases Pa)];exact Pa
 have eb7:upd H6 a (.ins C dx Ls) bg=some 132:=by rw [aj (λz=>by rw [z,Qr] at VN;cases VN)];exact VN
 have NO:aD H0 (upd H6 a (.ins C dx Ls)):=λc o hc=>by rw [aj (λz=>by rw [z,f0] at hc;cases hc)];exact Mf c o hc
 have ea7:upd H6 a (.ins C dx Ls) a=some (.ins C dx Ls):=ae;have dE7:upd H6 a (.ins C dx Ls) D1=some (.lst (DI.map V.ref)):=by rw [aj (λz=>by rw [z,Qr] at VX;cases VX)];exact VX
 have wE7:oz K (upd H6 a (.ins C dx Ls)) DI aL:=wE6.keep λ_ _ z=>gR Qr z;generalize upd H6 a (.ins C dx Ls)=H7 at O_ eb7 NO ea7 dE7 wE7;refine⟨_,rfl,R,rs,aa,rfl,NO.seq hR,cI.same NO,∅,λD4 H8 f8 s8 e8=>?_⟩;have Om:=i5 (aa.map 82) [];simp only [j_,au] at Om;refine⟨D4,rfl,⟨_,aI.of e8⟩,λD5 MO=>zH (aI.of e8) ∅ MO λts ps H9 s9 e9 m9 p9 l9 n9=>?_⟩;have n1:(ps.map 82).Nodup:=by rw [m9];exact pI _ gE
 have Ic:Paired (λt (kv:aN×V)=>aY K H9 t [kV kv.1,kv.2]) ts (ps.map jw):=cY p9 λ_ _ z=>z;refine⟨D5,ts,_,rfl,e9,Ic,λd vp=>?_⟩;have TB:di (ps.map jw) []=ps.map jw:=oo _ [] (by
  rw [mw,lG];exact xy n1)
 rw [TB];have PY:=s8.trans s9;have sd:=af vp (.dK (ps.map jw));have AY:=PY.trans sd;have qw:upd H9 d (.dK (ps.map jw)) d=some (.dK (ps.map jw)):=ae;have Ol:∀p∈ps,upd H9 d (.dK (ps.map jw)) p.2=some (.dK [])/\p.2≠d:=λp hp=>⟨sd _ _ (l9 p hp).1,λz=>by have:=(l9 p hp).1;rw [z,vp] at this;cases this⟩;generalize upd H9 d (.dK (ps.map jw))=zW at AY qw Ol;have B2:=AY _ _ ea7;have xQ:=AY _ _ O_;have Pb:=AY _ _ eb7;have WZ:=NO.trans AY;have Pr:=AY _ _ dE7;have Wr:oz K zW DI aL:=wE7.keep λ_ _ z=>AY.tup z;refine⟨_,rfl,a,C,dx,_,rfl,B2,B.cls,B.a4,(by rw [<-hf7,<-YR];show 3 < 1000;decide),?_⟩;have fp:∀p∈ps,H0 p.2=none/\p.2≠e:=λp hp=>by
  have h8':H8 p.2=none:=(l9 p hp).2.1;refine⟨(NO.trans s8).free h8',λz=>?_⟩;have:=s8 _ _ O_;rw [<-z,h8'] at this;cases this
 have hfs:Exists λfs=>dU "firsts" (.ref d) Ls=fs/\fs.lookup ("empty":Str)=some (.ref e)/\fs.lookup ("begins":Str)=some (.ref bg)/\fs.lookup ("firsts":Str)=some (.ref d)/\fs.lookup ("find_begins":Str)=none/\(fs.lookup ("words_of_part":Str)=none/\fs.lookup ("first_words":Str)=none/\fs.lookup ("all_empty":Str)=none/\fs.lookup ("words_of_parts":Str)=none)/\fs.lookup ("empties":Str)=some (.ref D1):=by
  refine⟨_,rfl,?_⟩;rw [<-hf7,<-YR];refine⟨?_,?_,?_,?_,⟨?_,?_,?_,?_⟩,?_⟩ <;> rfl
 obtain⟨fs,efs,k1,k2,k3,k4,k5,k6⟩:=hfs;rw [efs];have Fx:oC K C H0 (upd zW a (.ins C dx fs)) a e d bg kE aL ps []:=by
  refine⟨λc o hc=>by rw [aj (λz=>by rw [z,f0] at hc;cases hc)];exact WZ c o hc,⟨dx,fs,ae,k1,k2,k3,k4,k5⟩,?_,?_,n1,n9,λp hp=>⟨⟨[],?_,rfl⟩,(fp p hp).1,(fp p hp).2,(Ol p hp).2⟩,⟨[],?_,.nil⟩,fbg,⟨D1,DI,⟨dx,fs,ae,k6⟩,by rw [aj (λz=>by rw [z,B2] at Pr;cases Pr)];exact Pr,Wr.keep λ_ _ z=>gR B2 z,XD⟩⟩
  .rw [aj (λz=>by rw [z,B2] at xQ;cases xQ)];exact xQ
  .rw [aj (λz=>by rw [z,B2] at qw;cases qw)];exact qw
  .have:=(Ol p hp).1;rw [aj (λz=>by rw [z,B2] at this;cases this)];exact this
  rw [aj (λz=>by rw [z,B2] at Pb;cases Pb)];exact Pb
 generalize upd zW a (.ins C dx fs)=Fb at Fx;have eb:(λz=>(aZ kE 139).isSome)=λz=>decide (z∈aL.map 82):=funext El;refine⟨1,rfl,?_⟩;refine⟨λmm σ zV=>∃(aW:List Be) (many:Int)(y2 y4:Option V),σ=[aE a,aE R,y2,some (.int many),y4]/\oC K C H0 zV a e d bg kE aL ps aW/\um aa (hd aa) 195 aW/\-1<=many/\many<=aW.length /\
  (many=aW.length->z5 aa (hd aa) 195 aa.length aW)/\(mm:Int)=80001 - many,⟨80002,[],-1,none,none,rfl,Fx,.nil,∅,85,85,∅⟩,?_⟩
 rintro mm σ zV ⟨aW,many,y2,y4,rfl,JR,Pz,b1,b2,cl,em⟩;obtain⟨Po,qM,q1,q2,q3,q4,q5,q6⟩:=JR.ia;obtain⟨tb,hb1,IA⟩:=JR.lb;have lb:=bc IA;have Oq:=Pz.len bN h8;refine⟨_,rfl,_,rfl,a,C,Po,qM,_,rfl,q1,B.cls,B.a3,q3,bg,_,rfl,.inl (aI.of hb1),_,_,rfl,rfl,_,rfl,?_⟩;refine 184
 .have c':=cW c;rw [au,lb] at c';refine⟨λσ Dx=>∃(d6:List Be)(y2 y4:Option V),σ=[aE a,aE R,y2,some (.int (aW.length:Int)),y4]/\oC K C H0 Dx a e d bg kE aL ps d6/\um aa (hd aa) 195 d6/\aW.length<=d6.length /\
   (d6.length=aW.length->d6=aW/\z5 aa (hd aa) 195 aa.length aW),?_,?_⟩
  .rintro σ Dx ⟨d6,y2,y4,rfl,Jm,E2,X1,JP⟩;have:=E2.len bN h8;refine⟨(80001 - aW.length:Int).toNat,∅,d6,_,_,_,rfl,Jm,E2,∅,∅,λz=>?_,∅⟩;obtain⟨Lz,zy⟩:=JP ∅;rw [Lz];exact zy
  refine⟨_,rfl,a,C,Po,qM,_,rfl,q1,B.cls,B.a3,q3,bg,_,rfl,.inl (aI.of hb1),?_⟩;rw [au,lb];refine⟨_,rfl,R,_,rfl,JR.sm.seq hR,?_⟩;refine k0 (xs:=138) (λi σ Dx=>∃(d6:List Be)(y2 y4:Option V),σ=[aE a,aE R,y2,some (.int (aW.length:Int)),y4]/\oC K C H0 Dx a e d bg kE aL ps d6/\um aa (hd aa) 195 d6/\aW.length<=d6.length /\
   (d6.length=aW.length->d6=aW/\z5 aa (hd aa) 195 i aW)) ⟨aW,_,_,rfl,JR,Pz,aG _,λ_=>⟨rfl,λk ru hk=>by omega⟩⟩ ?_ ?_ ?_
  .rintro i σ Dx _ ⟨d6,y2,y4,rfl,Jm,_⟩;exact Jm.sm.seq hR
  .rintro i x σ Dx t ex ⟨d6,y2,y4,rfl,Jm,E2,X1,JP⟩ ht
   ac_nf0
   rw [a0] at ex;obtain⟨r,er,rfl⟩:=b0.mp ex;obtain⟨ru,tI,rv⟩:=cI.get er;have kZ:=cC tI;have Um:=Jm.same (af ht (.tup [149,.ref r]));have Si:aY K (upd Dx t (.tup [149,.ref r])) t [149,.ref r]:=aY.of ae;generalize upd Dx t (.tup [149,.ref r])=H14 at Um Si;obtain⟨dx4,Ql,r1,r2,r3,r4,r5,r6⟩:=Um.ia;refine⟨t,_,rfl,Si,rfl,_,_,rfl,_,_,rfl,rfl,?_⟩;refine⟨_,rfl,a,dx4,Ql,rfl,r1,r5,_,rfl,_,rfl,H0,a,e,d,bg,r,kE,aL,ps,d6,i,ru,aa,rfl,Um,rv,tI,h8 ru kZ,by rw [m9];exact(ig _ _ _).mpr (.inr (iw kZ)),?_,?_,?_⟩
   .intro xV JG;have:=JG.len bN h8;omega
   .rw [m9,eb];exact E2
   rw [m9,eb];intro aag H15 S15 aaf l15 c15;refine⟨aag,_,_,rfl,S15,aaf,∅,λhl3=>?_⟩;obtain⟨x1,x2⟩:=JP ∅;obtain⟨x3,x4⟩:=c15 ∅;refine⟨x3.trans x1,λk A2 hk Zu j z hj ez wd hw=>?_⟩;by_cases ck:k < i
   .exact x2 k A2 ck Zu j z hj ez wd hw
   have:k=i:=by omega
   subst this;rw [tI] at Zu;cases Zu;rw [<-x1] at hw ⊢;exact x4 j z hj ez wd hw
  rintro σ Dx ⟨d6,y2,y4,rfl,Jm,E2,X1,JP⟩;rw [au,ll] at JP;exact⟨d6,_,_,rfl,Jm,E2,X1,JP⟩
 have c':=of_decide_eq_false (ro.mpr c);rw [au,lb] at c';exact q e d bg kE aL ps aW zV JR m9 emp mX El Pz (cl ∅)
end
end g9
namespace L2
open PySem PySem.W
section
variable {X:Cx}{ag:z0e}{σ:St}{H:Hp}{s:Shared}{a:Addr}{kvs:87}{k:aN}{u:Value}{A:Around}{E:z0b}
def Pp {z:V}{r:Value}{Q:z0b}(I:133)(e:H a=162)(hl:kvs.length < sizeLine)(ry:RelV (kV k) u)(rz:RelV z r)
  (h1:∀v w' s',aZ kvs k=some v->Inv X ag σ H s'->RelV v w'->Q w' s')(h2:aZ kvs k=none->∀s',Inv X ag σ (upd H a (.dK (bQ kvs k z))) s'->Q r s') :
  wpAny 145 A (call (.builtin "dict.setdefault") [.ref a,u,r]) Q E s:=by
 obtain⟨zl,hd,vs,rel,dd⟩:=vF I.cu e;refine call_meetsIn PySem.F.slot_dict_setdefault dd.typeIs PySem.F.entry_dict_setdefault (PySem.F.args_dict_setdefault_3 _ _ _) (kt_meets_setdefault (aX X.prog X.w) a (lZ ry) hd r)
  ⟨vs,dd,by rw [<-rel.length];exact zl,λv hv=>?_,λhn h' JO hs=>?_⟩
 .have rv:=rel.val k;rw [hv] at rv;cases e2:aZ kvs k with
  | none=>rw [e2] at rv;cases rv
  | some x=>rw [e2] at rv;exact h1 x v _ e2 (I.tok _) rv
 have Fq:aZ kvs k=none:=by
  have rv:=rel.val k;rw [hn] at rv;cases e2:aZ kvs k with
  | none=>rfl
  | some x=>rw [e2] at rv;cases rv
 have he:∃q,h'.get? a=some q:=let ⟨q,_,_,hq,_⟩:=JO;⟨q,hq⟩;exact h2 Fq _ (qQ I (by rw [e];exact True.intro) hs he (tM (by have:=fX kvs k z;omega) hd (rel.put k rz) JO))
end
section
variable {X:Cx}{o e f:Expr}{apos gZ:Pos}{td ty tx:TE}
def Nq (td ty tx:TE):TE:=λσ H Q=>td σ H λx H1=>∃a,x=.ref a/\V7 H1 a/\ty σ H1 λy H2=>tx σ H2 λz H3=>∃kvs k,H3 a=162/\y=kV k/\kvs.length < sizeLine /\
 (∀v,aZ kvs k=some v->Q v H3)/\(aZ kvs k=none->Q z (upd H3 a (.dK (bQ kvs k z))))
def G8 (ho:PE X o td)(he:PE X e ty)(hf:PE X f tx)(m:M2 X o "setdefault" apos e f gZ):PE X (.Call (.Attribute o "setdefault" apos) [e,f] [] gZ) (Nq td ty tx):=by
 intro ag s σ H Q I h;refine wpAny_Call_method m.base m.qO m.line An PySem.F.slot_dict_setdefault PySem.F.type_dict_setdefault (dB (ho ag s σ H _ I h) λu s1 bI=>?_);obtain⟨x,H1,I1,rx,a,ex,d,q1⟩:=bI;subst ex;obtain rfl:u=Value.ref a:=rx;obtain⟨t1,t2,_⟩:=BD I1 d;refine⟨t1,t2,?_⟩;rw [m.trees];refine rG rfl (wc (oS (dB (he ag s1 σ H1 _ I1 q1) λiv s2 ⟨y,H2,I2,ry,q2⟩ =>
  oS (dB (hf ag s2 σ H2 _ I2 q2) λfv s3 ⟨z,H3,I3,rz,kvs,k,ea,ey,hl,q3,q4⟩=>Calls.spliced_nil ?_))))
 subst ey;exact Pp I3 ea hl ry rz (λv w' s4 l I4 A0=>⟨v,_,I4,A0,q3 v l⟩) λl s4 I4=>⟨z,_,I4,rz,q4 l⟩
end
end L2
namespace g9
open PySem L2 M11
section
def Rw {ps:z0f}(n1:(ps.map 82).Nodup)(n2:(ps.map (·.2)).Nodup){p p':Str×Addr}(hp:p∈ps)(pE:p'∈ps)(z:p'≠p):p'.1≠p.1/\p'.2≠p.2:=by
 refine⟨λq=>z ?_,λq=>z ?_⟩
 .have w1:=gP ps n1 p' pE;have w2:=gP ps n1 p hp;rw [q,w2] at w1;injection w1 with w3;injection w3 with w4;exact gN q w4.symm
 obtain⟨i,hi,ei⟩:=qX.mp pE;obtain⟨j,hj,ej⟩:=qX.mp hp;have zo:i=j:=by
  refine(vY (xs:=ps.map (·.2)) (h₀:=by simpa using hi) (h₁:=by simpa using hj) n2).mp ?_;rw [oR,oR,ei,ej];exact q
 subst zo;exact ei.symm.trans ej
structure JS (ps:z0f)(st:Str->z0u)(H:Hp)(d:Addr):Prop where
 hd:H d=some (.dK (ps.map jw))
 n1:(ps.map 82).Nodup
 n2:(ps.map (·.2)).Nodup
 lst:∀p∈ps,H p.2=some (.lst ((st p.1).map V.int))
def JS.same {ps:z0f}{st:Str->z0u}{H H':Hp}{d:Addr}(h:JS ps st H d)(s:aD H H'):JS ps st H' d:=⟨s _ _ h.hd,h.n1,h.n2,λp hp=>s _ _ (h.lst p hp)⟩
def Dr (st:Str->z0u)(n:Str) (k:Int):Str->z0u:=λz=>if z=n then st z++[k] else st z
def JS.more {ps:z0f}{st:Str->z0u}{H:Hp}{d:Addr}(h:JS ps st H d){p:Str×Addr}(hp:p∈ps) (k:Int):JS ps (Dr st p.1 k) (upd H p.2 (.lst ((st p.1).map V.int++[.int k]))) d:=by
 have a:=h.lst p hp;have nd:d≠p.2:=λz=>by have:=h.hd;rw [z,a] at this;cases this
 refine⟨by rw [aj nd];exact h.hd,h.n1,h.n2,λp' pE=>?_⟩;by_cases z:p'=p
 .rw [z,ae];have e1:Dr st p.1 k p.1=st p.1++[k]:=aw rfl;rw [e1,bj];rfl
 obtain⟨a1,a2⟩:=Rw h.n1 h.n2 hp pE z;have e1:Dr st p.1 k p'.1=st p'.1:=ar a1;rw [aj a2,e1];exact h.lst p' pE
def AE (K:bp):Sp:=λvs H Q _=>∃(R:Addr)(rs:z0q)(aa:83),vs=[.ref R]/\aI K H R 146/\bK K H rs aa/\aa.length<=1000 /\
 ∀(d:Addr)(ps:z0f)(H':Hp),H d=none->aD H H'->JS ps (λn=>nums aa n aa.length) H' d->ps.map 82=hd aa->(∀p∈ps,H p.2=none)->Q (.ref d) H'
def w5:aK ["rules","numbers","number","rule"] ["rules"] (ay Gj):=152
def KC (F:ir K "numbers_by_name" "numbers_by_name" Gj f fd)(T:Txt mg)(GH:aF P w K mg base 1 "heads_of" ["rules"] (lB K)):bR P w K mg base fK 2 f fd ["rules"] (AE K):=by
 refine F.ok w5 157 161
 .obtain⟨R,rs,aa,rfl,_⟩:=h;rfl
 obtain⟨R,rs,aa,rfl,hR,cI,bN,q⟩:=h;have hu:=fY hr;refine⟨_,ai (az (i:=1) w5.nd rfl 84 (bL (eZ rfl) rfl T.Dk gA (ab
   (aV ["name"] [] rfl (aR (bu GH hr rfl (ab (pv 0) ak))) (aS rfl rfl) nofun rfl nofun
    (λ_ _ _ _ _=>aq (i:=0) (show (["name"]:z0t).Nodup by decide +kernel) rfl 84) 177
    (λ_ _ _ _ _=>bW (ab (pv 0) (ab (bM ak) ak)))) ak)))
  (ai (bJ bV rfl (nY rfl T.Lv (ab (pv 0) ak)) (gq rfl (aB (aq (i:=2) w5.nd rfl 84) (aB (aq (i:=3) w5.nd rfl 84) bH)))
   (ao (cT (gX gw ix iz cv (fI hu (pv 1) (ba bE (pv 3) av 137) 137) (ab (pv 2) ak)))))
  (ao (br (pv 1)))),?_⟩
 nofun
 have ll:=bc cI;refine⟨_,rfl,R,rs,aa,rfl,hR,cI,bN,λD2 H3 f3 s3 e3=>?_⟩;have Om:=i5 (aa.map 82) [];simp only [j_,au] at Om;refine⟨D2,rfl,⟨_,aI.of e3⟩,λD3 OV=>tR (aI.of e3) ∅ OV λts ps H4 s4 e4 m4 p4 l4 n4=>?_⟩;have n1:(ps.map 82).Nodup:=by rw [m4];exact pI _ gE
 have Ic:Paired (λt (kv:aN×V)=>aY K H4 t [kV kv.1,kv.2]) ts (ps.map jw):=cY p4 λ_ _ z=>z;refine⟨D3,ts,_,rfl,e4,Ic,λd vp=>?_⟩;have TB:di (ps.map jw) []=ps.map jw:=oo _ [] (by
  rw [mw,lG];exact xy n1)
 rw [TB];have s5:=(s3.trans s4).trans (af vp (.dK (ps.map jw)));have u9:=af vp (.dK (ps.map jw));have Ad:H d=none:=(s3.trans s4).free vp;have S5:JS ps (λn=>nums aa n 0) (upd H4 d (.dK (ps.map jw))) d:=⟨ae,n1,n4,λp hp=>u9 _ _ (l4 p hp).1⟩;have Qm:∀p∈ps,H p.2=none:=λp hp=>s3.free (l4 p hp).2.1;generalize upd H4 d (.dK (ps.map jw))=H5 at s5 S5;clear u9;refine⟨_,rfl,R,_,rfl,s5.seq hR,?_⟩
 let yd:t_:=λi σ H6=>∃(y2 y3:Option V),σ=[aE R,aE d,y2,y3]/\aD H H6/\JS ps (λn=>nums aa n i) H6 d
 refine k0 (xs:=138) yd ⟨none,none,rfl,s5,S5⟩ ?_ ?_ ?_
 .rintro i σ H6 _ ⟨y2,y3,rfl,s6,_⟩;exact s6.seq hR
 .rintro i x σ H6 t ex ⟨y2,y3,rfl,s6,S6⟩ ht
  ac_nf0
  rw [a0] at ex;obtain⟨r,er,rfl⟩:=b0.mp ex;obtain⟨ru,tI,p,v1,v2⟩:=cI.get er;have kZ:=cC tI;have li:=(bw.mp tI).1;have z9:=af ht (.tup [149,.ref r]);have MH:aY K (upd H6 t (.tup [149,.ref r])) t [149,.ref r]:=aY.of ae;have s7:=s6.trans z9;have S7:=S6.same z9;generalize upd H6 t (.tup [149,.ref r])=H7 at MH s7 S7;obtain⟨pn,zk,Ae⟩:∃pn∈ps,pn.1=ru.1:=by
   have:ru.1∈ps.map 82:=by rw [m4];exact(ig _ _ _).mpr (.inr (iw kZ))
   obtain⟨pn,a,b⟩:=bY.mp this;exact⟨pn,a,b⟩
  have an:=S7.lst pn zk;have vn:=gP ps n1 pn zk;rw [Ae] at vn;have hg:cg H7 d (.str ru.1) (some (.ref pn.2)):=by
   have:=cg.k (k:=Sum.inr ru.1) S7.hd;rw [vn] at this;exact this
  have ln:=yO aa pn.1 i;refine⟨t,_,rfl,MH,rfl,_,_,rfl,_,_,rfl,rfl,?_⟩;refine⟨_,rfl,_,rfl,r,_,_,_,rfl,rfl,s7.tup v1,rfl,d,_,rfl,hg,.inl ⟨rfl,_,aI.of an⟩,_,rfl,pn.2,_,_,rfl,rfl,an,176,?_⟩;have S8:=S7.more zk (i:Int);refine⟨_,_,rfl,λb o hb=>by rw [aj (λz=>by rw [z,Qm pn zk] at hb;cases hb)];exact s7 b o hb,S8.hd,S8.n1,S8.n2,λp' pE=>?_⟩;have:=S8.lst p' pE;rw [this]
  congr 3
  unfold Dr;rw [Eg];by_cases c:p'.1=pn.1
  .rw [aw c,aw];unfold y_;rw [tI,c,Ae];simp
  rw [ar c,ar,d_];unfold y_;rw [tI];intro z;have z2:=cW z;injection z2 with z3;exact c (by rw [Ae];exact z3.symm)
 rintro σ H6 ⟨y2,y3,rfl,s6,S6⟩;rw [au,ll] at S6;exact⟨_,rfl,q d ps H6 Ad s6 S6 m4 Qm⟩
def Mc (K:bp):Sp:=λvs H Q _=>∃(R:Addr)(rs:z0q)(aa:83),vs=[.ref R]/\aI K H R 146/\bK K H rs aa/\aa.length<=1000/\198 /\
 ∀(d:Addr)(H':Hp),H d=none->aD H H'->Q (.ref d) H'
structure Fv (H0 H:Hp)(d:Addr)(kvs:87) (n:Nat):Prop where
 hd:H d=162
 ln:kvs.length<=n
 lst:∀kv∈kvs,∃a xs,kv.2=.ref a/\H a=some (.lst xs)/\H0 a=none/\xs.length<=n
def Fv.same {H0 H H':Hp}{d:Addr}{kvs:87}{n:Nat}(h:Fv H0 H d kvs n)(s:aD H H'):Fv H0 H' d kvs n:=⟨s _ _ h.hd,h.ln,λkv hk=>let ⟨a,xs,e1,e2,e3,e4⟩:=h.lst kv hk;⟨a,xs,e1,s _ _ e2,e3,e4⟩⟩
def Fv.more {H0 H:Hp}{d a:Addr}{kvs:87}{n:Nat}{xs:List V}{y:V}(h:Fv H0 H d kvs (n+1))(ha:H a=some (.lst xs))(lx:xs.length<=n)(l2:∀kv∈kvs,∃a xs,kv.2=.ref a/\H a=some (.lst xs)/\H0 a=none/\xs.length<=n):Fv H0 (upd H a (.lst (xs++[y]))) d kvs (n+1):=by
 have nd:d≠a:=λz=>by have:=h.hd;rw [z,ha] at this;cases this
 refine⟨by rw [aj nd];exact h.hd,h.ln,λkv hk=>?_⟩;obtain⟨b,ys,e1,e2,e3,e4⟩:=l2 kv hk;by_cases c:b=a
 .exact⟨b,xs++[y],e1,by rw [c,ae],e3,by rw [a8];simp;omega⟩
 exact⟨b,ys,e1,by rw [aj c];exact e2,e3,∅⟩
def Ni {kvs:87}{k:aN}{v:V}(h:aZ kvs k=some v):∃kv∈kvs,kv.2=v:=by
 unfold aZ at h;obtain⟨kv,e1,e2⟩:=b0.mp h;exact⟨kv,List.mem_of_find?_eq_some e1,e2⟩
def u6:aK ["rules","standings","number","rule","place","part"] ["rules"] (ay NB):=152
def N_ (F:ir K "standings_by_part" "standings_by_part" NB f fd)(T:Txt mg):bR P w K mg base fK 1 f fd ["rules"] (Mc K):=by
 refine F.ok u6 157 161
 .obtain⟨R,rs,aa,rfl,_⟩:=h;rfl
 obtain⟨R,rs,aa,rfl,hR,cI,bN,h8,q⟩:=h;have hu:=fY hr;refine⟨_,ai (az (i:=1) u6.nd rfl 84 fR)
  (ai (bJ bV rfl (nY rfl T.Lv (ab (pv 0) ak)) (gq rfl (aB (aq (i:=2) u6.nd rfl 84) (aB (aq (i:=3) u6.nd rfl 84) bH)))
   (ao (bJ bV rfl (nX rfl T.Lv (ab (ba bE (pv 3) av 137) ak)) (gq rfl (aB (aq (i:=4) u6.nd rfl 84) (aB (aq (i:=5) u6.nd rfl 84) bH)))
    (ao (cT (gX gw ix iz cv (G8 (pv 1) (pv 5) (bM ak) ⟨rfl,rfl,rfl,rfl⟩) (ab (bW (ab (pv 2) (ab (pv 4) ak))) ak)))))))
  (ao (br (pv 1)))),?_⟩
 nofun
 have ll:=bc cI;intro d vp;have s1:=af vp (.dK []);have S1:Fv H (upd H d (.dK [])) d [] (8 * 0):=⟨ae,aG _,λkv hk=>by cases hk⟩;generalize upd H d (.dK [])=H1 at s1 S1;refine⟨_,rfl,R,_,rfl,s1.seq hR,?_⟩
 let E9:t_:=λi σ H6=>∃(kvs:87)(y2 y3 y4 y5:Option V),σ=[aE R,aE d,y2,y3,y4,y5]/\aD H H6/\Fv H H6 d kvs (8 * i)
 refine k0 (xs:=138) E9 ⟨[],none,none,none,none,rfl,s1,S1⟩ ?_ ?_ ?_
 .rintro i σ H6 _ ⟨kvs,y2,y3,y4,y5,rfl,s6,_⟩;exact s6.seq hR
 .rintro i x σ H6 t ex ⟨kvs,y2,y3,y4,y5,rfl,s6,S6⟩ ht
  ac_nf0
  rw [a0] at ex;obtain⟨r,er,rfl⟩:=b0.mp ex;obtain⟨ru,tI,p,v1,v2⟩:=cI.get er;have kZ:=cC tI;have OW:=h8 ru kZ;have li:=(bw.mp tI).1;have z9:=af ht (.tup [149,.ref r]);have MH:aY K (upd H6 t (.tup [149,.ref r])) t [149,.ref r]:=aY.of ae;have s7:=s6.trans z9;have S7:=S6.same z9;generalize upd H6 t (.tup [149,.ref r])=H7 at MH s7 S7;refine⟨t,_,rfl,MH,rfl,_,_,rfl,_,_,rfl,rfl,?_⟩;refine⟨_,rfl,r,_,_,_,rfl,rfl,s7.tup v1,rfl,p,_,rfl,s7.tup v2,?_⟩
  let Ur:t_:=λj σ H9=>∃(kvs:87)(y4 y5:Option V),σ=[aE R,aE d,some (149),aE r,y4,y5]/\aD H H9/\Fv H H9 d kvs (8 * i+j)
  refine pG (xs:=ru.2.map V.str) Ur ⟨kvs,_,_,rfl,s7,S7⟩ ?_ ?_ ?_
  .rintro j σ H9 _ ⟨kvs,y4,y5,rfl,s9,_⟩;exact s9.tup v2
  .rintro j x σ H9 t2 iH ⟨kvs,y4,y5,rfl,s9,S9⟩ jH
   ac_nf0
   rw [a0] at iH;obtain⟨z,ez,rfl⟩:=b0.mp iH;have lj:=(bw.mp ez).1;have yF:=af jH (.tup [.int (j:Int),.str z]);have Ij:aY K (upd H9 t2 (.tup [.int (j:Int),.str z])) t2 [.int (j:Int),.str z]:=aY.of ae;have ql:=s9.trans yF;have M_:=S9.same yF;generalize upd H9 t2 (.tup [.int (j:Int),.str z])=zW at Ij ql M_;refine⟨t2,_,rfl,Ij,rfl,_,_,rfl,_,_,rfl,rfl,?_⟩;have lk:=M_.ln;refine⟨_,rfl,d,rfl,.inl ⟨kvs,.inl M_.hd⟩,_,rfl,uo,λl hl=>?_⟩;have Kg:=af hl 132;have JN:upd zW l 132 l=some 132:=ae;have fl:H l=none:=ql.free hl;have Fx:=M_.same Kg;have sA:=ql.trans Kg;generalize upd zW l 132=Fb at Kg JN Fx sA;have fin:∀(a:Addr)(xs:List V)(mQ:87)(zV:Hp),zV a=some (.lst xs)->H a=none->xs.length<=8 * i+j->Fv H zV d mQ (8 * i+j+1)->(∀kv∈mQ,∃a xs,kv.2=.ref a/\zV a=some (.lst xs)/\H a=none/\xs.length<=8 * i+j)->aD H zV ->
     ∀t4,zV t4=none->xs.length < sizeLine/\∃(kvs:87)(y4 y5:Option V),[some (V.ref R),aE d,some (149),aE r,some (.int (j:Int)),some (.str z)]=[aE R,aE d,some (149),aE r,y4,y5]/\aD H (upd (upd zV t4 (.tup [149,.int (j:Int)])) a (.lst (xs++[.ref t4])))/\Fv H (upd (upd zV t4 (.tup [149,.int (j:Int)])) a (.lst (xs++[.ref t4]))) d kvs (8 * i+(j+1)) :=
    λa xs mQ zV ea fa lx JR Jz AZ t4 Ey=>by
     have qE:=af Ey (.tup [149,.int (j:Int)]);refine⟨bB ∅,mQ,_,_,rfl,λb o hb=>by rw [aj (λz=>by rw [z,fa] at hb;cases hb)];exact qE _ _ (AZ b o hb),?_⟩;exact(JR.same qE).more (qE _ _ ea) lx λkv hk=>let ⟨b,ys,e1,e2,e3,e4⟩:=Jz kv hk;⟨b,ys,e1,qE _ _ e2,e3,e4⟩
   refine⟨kvs,88,Fx.hd,rfl,bB ∅,λv hv=>?_,λhn=>?_⟩
   .obtain⟨kv,hk,ek⟩:=Ni hv;obtain⟨a,xs,e1,e2,e3,e4⟩:=Fx.lst kv hk;rw [e1] at ek;subst ek;refine⟨.inl ⟨rfl,_,aI.of e2⟩,_,rfl,_,rfl,qi,λt4 Ey=>?_⟩;obtain⟨g1,g2⟩:=fin a xs kvs Fb e2 e3 e4 ⟨Fx.hd,∅,λkv hk=>let ⟨b,ys,e1,e2,e3,e4⟩:=Fx.lst kv hk;⟨b,ys,e1,e2,e3,∅⟩⟩ Fx.lst sA t4 Ey;exact⟨a,_,_,rfl,rfl,af Ey _ _ _ e2,g1,g2⟩
   have nd:d≠l:=λz=>by have:=Fx.hd;rw [z,JN] at this;cases this
   have MZ:upd Fb d (.dK (bQ kvs 139 (.ref l))) l=some 132:=by rw [aj nd.symm];exact JN
   have Ad:H d=none:=vp;have AZ:aD H (upd Fb d (.dK (bQ kvs 139 (.ref l)))):=λb o hb=>by rw [aj (λz=>by rw [z,Ad] at hb;cases hb)];exact sA b o hb
   have Jz:∀kv∈bQ kvs 139 (.ref l),∃a xs,kv.2=.ref a/\upd Fb d (.dK (bQ kvs 139 (.ref l))) a=some (.lst xs)/\H a=none/\xs.length<=8 * i+j:=λkv hk=>by
    rw [kO _ hn] at hk;rcases bO.mp hk with h | h
    .obtain⟨b,ys,e1,e2,e3,e4⟩:=Fx.lst kv h;exact⟨b,ys,e1,by rw [aj (λz=>by rw [z,Fx.hd] at e2;cases e2)];exact e2,e3,e4⟩
    rw [bA.mp h];exact⟨l,[],rfl,MZ,fl,85⟩
   have lp:=fX kvs (88:aN) (.ref l);have JR:Fv H (upd Fb d (.dK (bQ kvs 139 (.ref l)))) d (bQ kvs 139 (.ref l)) (8 * i+j+1):=⟨ae,∅,λkv hk=>let ⟨b,ys,e1,e2,e3,e4⟩:=Jz kv hk;⟨b,ys,e1,e2,e3,∅⟩⟩;generalize upd Fb d (.dK (bQ kvs 139 (.ref l)))=zV at MZ AZ Jz JR;refine⟨.inl ⟨rfl,_,aI.of MZ⟩,_,rfl,_,rfl,qi,λt4 Ey=>?_⟩;obtain⟨g1,g2⟩:=fin l [] _ zV MZ fl 135 JR Jz AZ t4 Ey;exact⟨l,_,_,rfl,rfl,af Ey _ _ _ MZ,g1,g2⟩
  rintro σ H9 ⟨kvs,y4,y5,rfl,s9,S9⟩;rw [au] at S9;refine⟨kvs,_,_,_,_,rfl,s9,S9.hd,by have:=S9.ln;omega,λkv hk=>let ⟨b,ys,e1,e2,e3,e4⟩:=S9.lst kv hk;⟨b,ys,e1,e2,e3,∅⟩⟩
 rintro σ H6 ⟨kvs,y2,y3,y4,y5,rfl,s6,S6⟩;exact⟨_,rfl,q d H6 vp s6⟩
end
end g9
namespace L2
open PySem PySem.Spec PyProof.Rows
open PySem
def dQ {X:Cx}(K:bp)(hK:X.K=K:=by rfl):ng X (compareOp .In) (U0 K false):=by
 subst hK;exact jt
def vd {X:Cx}(hu:X.A.units < cLine):ng X (compareOp .NotEq) (λx y H Q=>∃a b xs,x=.ref a/\y=.ref b/\aI X.K H a xs/\aI X.K H b []/\Q (.bl (!xs.isEmpty)) H):=by
 intro ag s σ H x y v u Q I rx ry h;obtain⟨a,b,xs,rfl,rfl,ha,hb,q⟩:=h;cases rx;cases ry;obtain⟨aT,r,pl,hz⟩:=I.list ha;obtain⟨ft,r2,DT,hz2⟩:=I.list hb;have e2:ft=[]:=bF.zero r2;subst e2;have bN:=r.length;cases xs with
 | nil =>
  have e:aT=[]:=bF.zero r;subst e;exact SeqAt.RcNeAt.lists (e:=λ_=>true) pl.isList DT.isList rfl hu (λj h1 _=>absurd h1 135) X.prog X.w X.xe _ ⟨.bl false,H,I,rfl,q⟩
 | cons y ys =>
  refine SeqAt.RcNeAt.lists_lengths pl.isList DT.isList ?_ hu X.prog X.w X.xe _ ⟨.bl true,H,I,rfl,q⟩;rw [cH,cH,<-bN];simp
def LW (K:bp)(H:Hp):Nat->V->V->Prop
 | 0,x,y=>x=y/\yb x
 | n+1,x,y=>(x=y/\yb x)\/∃a b xs ys,x=.ref a/\y=.ref b/\((aI K H a xs/\aI K H b ys)\/(aY K H a xs/\aY K H b ys))/\Paired (LW K H n) xs ys
def LW.self {K:bp}{H:Hp}{x:V}(h:yb x):∀n,LW K H n x x
 | 0=>⟨rfl,h⟩
 | _+1=>.inl ⟨rfl,h⟩
def pH {A:Around}{s:Shared}{F:V->V->Prop}{xs ys:List V}{aT ft:z0n}(r:bF xs aT)(r2:bF ys ft)(p:Paired F xs ys)(hF:∀x y u v,F x y->RelV x u->RelV y v->SeqAt.EqAt A s u v true) (j:Nat)(h1:j < aT.toArray.size)(h2:j < ft.toArray.size) :
  SeqAt.EqAt A s aT.toArray[j] ft.toArray[j] true:=by
 have l1:=r.length;have l2:=r2.length;have k1:j < aT.length:=by simpa using h1
 have k2:j < ft.length:=by simpa using h2
 have g2:ys[j]?=some (ys[j]'∅):=df ∅;obtain⟨x,g1,fx⟩:=Paired.at_ p j _ g2;obtain⟨u1,e1,q1⟩:=r.get g1;obtain⟨u2,e2,q2⟩:=r2.get g2;have f1:aT.toArray[j]=u1:=by
  have:=(bw.mp e1).2;simpa using this
 have f2:ft.toArray[j]=u2:=by
  have:=(bw.mp e2).2;simpa using this
 rw [f1,f2];exact hF _ _ _ _ fx q1 q2
theorem B4 {X:Cx}{ag:z0e}{σ:St}{H:Hp}{s:Shared}(I:133):∀(n:Nat)(A:Around)(x y:V)(u v:Value),LW X.K H n x y->RelV x u->RelV y v->A.units+n < cLine->SeqAt.EqAt A s u v true
 | 0,A,x,y,u,v,⟨e,h⟩,ru,rv,_=>by subst e;exact tJ h ru rv
 | n+1,A,x,y,u,v,.inl ⟨e,h⟩,ru,rv,_=>by subst e;exact tJ h ru rv
 | n+1,A,x,y,u,v,.inr ⟨a,b,xs,ys,ex,ey,hs,p⟩,ru,rv,hu=>by
  subst ex;subst ey;cases (show u=Value.ref a from ru);cases (show v=Value.ref b from rv);by_cases e:a=b
  .subst e;exact .same _
  refine .of_refs e ?_;have lp:=bc p;rcases hs with ⟨ha,hb⟩ | ⟨ha,hb⟩
  .obtain⟨aT,r,pl,_⟩:=I.list ha;obtain⟨ft,r2,DT,_⟩:=I.list hb;have l1:=r.length;have l2:=r2.length;have q:=SeqAt.RcAt.lists (A:=A) (s:=s) (e:=λ_=>true) pl.isList DT.isList (by simp only [cH];omega) ∅ (λj h1 h2=>pH r r2 p (λx y u v d r1 r2=>B4 I n A.in1 x y u v d r1 r2 (by rw [rg];omega)) j h1 h2);have e:((List.range aT.toArray.size).all λ_=>true)=true:=85
   rw [e] at q;exact q
  obtain⟨aT,r,pl,_⟩:=I.tuple ha;obtain⟨ft,r2,DT,_⟩:=I.tuple hb;have l1:=r.length;have l2:=r2.length;have q:=SeqAt.RcAt.tuples (A:=A) (s:=s) (e:=λ_=>true) pl DT ∅ (λj h1 h2=>pH r r2 p (λx y u v d r1 r2=>B4 I n A.in1 x y u v d r1 r2 (by rw [rg];omega)) j h1 h2);have e1:((List.range (min aT.toArray.size ft.toArray.size)).all (λ_=>true) && aT.toArray.size == ft.toArray.size)=true:=by
   have:aT.toArray.size=ft.toArray.size:=by simp only [cH];omega
   rw [this];simp
  rw [e1] at q;exact q
def Rt (K:bp)(b:Bool) (n:Nat):V->V->Hp->VK->Prop:=λx y H Q=>∃p q xs ys,x=.ref p/\y=.ref q/\aI K H p xs/\aI K H q ys/\Paired (LW K H n) xs ys/\Q (.bl b) H
def mJ {X:Cx}(n:Nat)(hu:X.A.units+(n+1) < cLine):ng X (compareOp .NotEq) (Rt X.K false n):=by
 intro ag s σ H x y v u Q I rx ry h;obtain⟨a,b,xs,ys,rfl,rfl,ha,hb,p,q⟩:=h;cases rx;cases ry;obtain⟨aT,r,pl,hz⟩:=I.list ha;obtain⟨ft,r2,DT,hz2⟩:=I.list hb;have l1:=r.length;have l2:=r2.length;have lp:=bc p;refine SeqAt.RcNeAt.lists (e:=λ_=>true) pl.isList DT.isList (by simp only [cH];omega) ∅ (λj h1 h2=>pH r r2 p (λx y u v d r1 r2=>B4 I n X.A.in1 x y u v d r1 r2 (by rw [rg];omega)) j h1 h2) X.prog X.w X.xe _ ?_;have e:(!(List.range aT.toArray.size).all λ_=>true)=false:=85
 rw [e];exact⟨.bl false,H,I,rfl,q⟩
section
variable {prog:Program}{w:World}{A:Around}{E:z0b}{s:Shared}
end
end L2
namespace HT
open PySem PyProof.Rows
section
variable {prog:Program}{w:World}{A:Around}{E:z0b}{s:Shared}
end
end HT
namespace L2
open PySem PySem.Spec PyProof.Rows
theorem Paired.NR {α β:Type}{F:α->β->Prop}:∀{a:List α}{c:List β},Paired F a c->Paired F a.reverse c.reverse
 | _,_,.nil=>.nil
 | _,_,.cons h t=>by rw [wa,wa];exact gk (Paired.NR t) h
open PySem
section
variable {prog:Program}{w:World}{A:Around}{E:z0b}{s:Shared}
end
end L2
namespace HT
open PySem PySem.Spec PyProof.Rows
section
variable {prog:Program}{w:World}{A:Around}{E:z0b}{s:Shared}
def oj {t sl:Addr}{items:z0l}{vl vu:Value}{lo hi:z0p}{Q:z0b}(ht:IsTup s.heap t items)(hs:s.heap.IsSliceOf sl vl vu .none)(pl:IsPart vl lo)(pu:IsPart vu hi)
  (hw:fM items.size 0 lo=0/\fM items.size items.size hi=items.size)(h:Q (.ref t) s):wpAny 150 A (getItem (.ref t) (.ref sl)) Q E s:=by
 obtain⟨os,OF,Vu,Ln⟩:=id hs;have Y3:s.TypeIs (.ref sl) "slice" := ⟨os,OF,Vu⟩;unfold getItem
 try with_reducible refine jZ ?_
 first | refine aA (aH ?_) | skip
 refine aA (wpAny_sequenceKey ht.typeIs nofun ?_);refine aA (pR (name:=Str.ofString "__getitem__") ht.typeIs uP
  (ka uP ht.typeIs entry_tuple_getitem ?_ (args_tuple_getitem _ _)))
 show wpAny _ _ (Builtin.Tuple.tupleItemsOf (.ref t) >>= _) _ _ s;refine aA (tupleItemsOf_ ht ?_);refine aA (i7 Y3 ?_);rw [aw nofun];refine aA (jo hs pl pu ?_);have Ye:(((fM items.size 0 lo:Nat):Int) == 0 && (1:Int) == 1 && (fM items.size items.size hi - fM items.size 0 lo) == items.size)=true:=by
  rw [hw.1,hw.2];simp
 show wpAny _ _ (if (((fM items.size 0 lo:Nat):Int) == 0 && (1:Int) == 1 && (fM items.size items.size hi - fM items.size 0 lo) == items.size)=true then _ else _) _ _ s;rw [aw Ye];refine aA ?_;unfold Builtin.Tuple.tupleIsExact;refine aA (i7 ht.typeIs (aH ?_));rw [aw nofun];refine aA (kj ?_);exact aH ⟨_,rfl,aH h⟩
end
end HT
namespace L2
open PySem PySem.Spec PyProof.Rows
def Mj (K:bp):V->z0p->z0p->Hp->VK->Prop:=λx lo hi H Q=>XSq x (aY K H) λxs=>∀p H',aD H H'->aY K H' p (g8 xs lo hi)->Q (.ref p) H'
def iY {X:Cx}:Ul X (Mj X.K):=by
 intro ag s σ H x v vl vu lo hi sl Q I rx hs pl pu h;obtain⟨a,xs,rfl,hx,q⟩:=h;by_cases hw:HT.fM xs.length 0 lo=0/\HT.fM xs.length xs.length hi=xs.length
 .have ec:g8 xs lo hi=xs:=by
   unfold g8;rw [hw.1,hw.2,rf,Nat.sub_zero,cw]
  cases rx;obtain⟨aT,r,ht,hz⟩:=I.tuple hx;have bN:aT.toArray.size=xs.length:=by rw [cH];exact r.length.symm
  refine⟨"tuple",_,uP.lookup,ht.typeIs,?_⟩;exact HT.oj ht hs pl pu (by rw [bN];exact hw) ⟨.ref a,H,I,rfl,q a H (λ_ _ h=>h) (by rw [ec];exact hx)⟩
 exact AG ag s σ H _ v vl vu lo hi sl Q I rx hs pl pu ⟨a,xs,rfl,hx,hw,λp hp=>q p _ (af hp _) (aY.of ae)⟩
def Rv (K:bp):R2:=λx y H Q=>XC2 (aY K H) x y λxs ys=>∀p H',aD H H'->aY K H' p (xs++ys)->Q (.ref p) H'
def qF {X:Cx}:ng X (binaryOp .Add) (Rv X.K):=by
 intro ag s σ H x y v u Q I rx ry h;obtain⟨a,b,xs,ys,rfl,rfl,ha,hb,hz,q⟩:=h;by_cases hx:xs=[]
 .cases rx;cases ry;obtain⟨aT,r1,p1,_⟩:=I.tuple ha;obtain⟨ft,r2,p2,_⟩:=I.tuple hb;have e1:aT=[]:=r1.qG.mpr hx;obtain⟨⟨cls,dd,data,sl⟩,ho,hc,n,hd⟩:=id p1;obtain⟨⟨aaa,Qx,data2,UQ⟩,EA,Ta,n2,hd2⟩:=id p2;simp only at hc hd Ta hd2;subst hc hd Ta hd2;exact concat_meets ⟨_,ho,rfl⟩ ⟨_,EA,rfl⟩ noFill_tuple_add seq_tuple_add Aj Am (Ap _ _)
   (tuple_addW0 a b aT.toArray ft.toArray n n2 dd Qx sl UQ (by simp [e1])) ⟨ho,EA,.ref b,H,I,rfl,q b H (λ_ _ h=>h) (by rw [hx];exact hb)⟩
 refine Ky ag s σ H _ _ v u Q I rx ry ⟨a,b,xs,ys,rfl,rfl,ha,hb,hx,hz,λe=>q a H (λ_ _ h=>h) (by rw [e,d_];exact ha),λ_ p hp=>q p _ (af hp _) (aY.of ae)⟩
def xq (x:Str):Nat->Str
 | 0=>Str.empty
 | 1=>x
 | _=>x++x
def Kx {X:Cx}:ng X (binaryOp .Mult) (λa b H Q=>∃x n,a=.str x/\b=.int ((n:Nat):Int)/\n<=2/\x.length=1/\Q (.str (xq x n)) H):=by
 intro ag s σ H a b v u Q I ra rb h;obtain⟨x,n,rfl,rfl,hn,hx,q⟩:=h;obtain⟨t,rfl⟩:=ra;obtain⟨t2,rfl⟩:=rb
 match n,hn,q with
 | 0,_,q=>exact PySem.P.mul_str_none nofun nofun ⟨.str Str.empty,H,I.tok _,⟨_,rfl⟩,q⟩
 | 1,_,q =>
  refine PySem.P.mul_str nofun (λ_ h=>by simp at h) (λ_ h=>by simp at h) ?_;rw [ar nofun,aw (by rfl)];exact⟨.str x,H,I,⟨_,rfl⟩,q⟩
 | 2,_,q =>
  refine PySem.P.mul_str nofun (λ_ _=>by rw [hx];decide) (λ_ _=>by rw [hx];decide) ?_;rw [ar nofun,ar (by rw [hx];decide)];have le:(Str.mk (#[]++x.cps++x.cps)).length<=sizeLine:=by
   show (#[]++x.cps++x.cps).size<=sizeLine;rw [Array.empty_append,Array.size_append];have:x.cps.size=1:=hx;rw [this];decide
  refine⟨le,⟨.str (x++x),H,I.tok _,⟨s.toks,?_⟩,q⟩⟩;show Value.str ⟨#[]++x.cps++x.cps⟩ _=Value.str ⟨x.cps++x.cps⟩ _;rw [Array.empty_append]
section
variable {prog:Program}{w:World}{A:Around}{E:z0b}{s:Shared}
end
open PySem PySem.W PyProof.Rows
section
variable {n:Nat}{lt:Nat->Nat->Bool}{cmp:Nat->Nat->(Bool->Shared->Prop)->Shared->Prop}{s:Shared}
structure pL (n:Nat)(lt:Nat->Nat->Bool):Prop where
 trans:∀a b c,a < n->b < n->c < n->lt b a=false->lt c b=false->lt c a=false
 xX:∀a b,a < n->b < n->lt a b=true->lt b a=false
def oA (n:Nat)(lt:Nat->Nat->Bool)(cmp:Nat->Nat->(Bool->Shared->Prop)->Shared->Prop)(s:Shared):Prop:=∀i j C,i < n->j < n->C (lt i j) s->cmp i j C s
structure qh (n:Nat)(p:z0s):Prop where
 pm:p.Perm (List.range n).toArray
theorem qh.size {p:z0s}(h:qh n p):p.size=n:=by
 have:=h.pm.size_eq;simpa using this
def qh.fZ {p:z0s}(h:qh n p){i:Nat}(hi:i < n):p.getD i 0 < n:=by
 have hs:=h.size;have e:p.getD i 0=p[i]'∅:=by simp [Array.getD,hs,hi]
 rw [e];have:p[i]'∅∈(List.range n).toArray:=h.pm.mem_iff.mp (Array.getElem_mem _);simpa using this
abbrev at_ (p:z0s) (i:Nat):Nat:=p.getD i 0
def qy (lt:Nat->Nat->Bool)(p:z0s) (k:Nat):Prop:=∀i j,i<=j->j < k->lt (at_ p j) (at_ p i)=false
def yc (lt:Nat->Nat->Bool)(p:z0s) (k:Nat):Prop:=∀i j,i<=j->j < k->lt (at_ p i) (at_ p j)=false
def pL.zc (o:pL n lt){a:Nat}(h:a < n):lt a a=false:=by
 cases e:lt a a with
 | false=>rfl
 | true=>rw [<-o.xX a a h h e,e]
def gY {α:Type}{a:α}{Q:α->Shared->Prop}(h:Q a s):KasT.kasWp cmp (.ret a) Q s:=h
def kY {α:Type}{i j:Nat}{k:Bool->KasT α}{Q:α->Shared->Prop}(A:oA n lt cmp s)(hi:i < n)(hj:j < n)(h:KasT.kasWp cmp (k (lt i j)) Q s):KasT.kasWp cmp (.ask i j k) Q s:=A i j _ hi hj h
def jx {α β:Type}{t:KasT α}{f:α->KasT β}{Q:β->Shared->Prop}:∀{s:Shared},KasT.kasWp cmp t (λa s'=>KasT.kasWp cmp (f a) Q s') s->KasT.kasWp cmp (t.bind f) Q s:=by
 have key:∀t:KasT α,KasT.kasWp cmp (t.bind f) Q=KasT.kasWp cmp t (λa s'=>KasT.kasWp cmp (f a) Q s'):=by
  intro t
  induction t with
  | ret a=>rfl
  | ask i j k ih =>
   funext s
   show cmp i j (λc s'=>KasT.kasWp cmp ((k c).bind f) Q s') s=cmp i j (λc s'=>KasT.kasWp cmp (k c) _ s') s
   congr 1
   funext c s'
   rw [ih c]
 intro s h;rw [key];exact h
def tX (p:z0s) (i:Nat):at_ p i=(p[i]?).getD 0:=Array.getD_eq_getD_getElem?
def gJ {p:z0s}{i j k:Nat}(hj:j<=p.size):at_ (kas_rev p i j) k=if i<=k/\k < j then at_ p (i+j - 1 - k) else at_ p k:=by
 have h:=getElem?_mirror_all (xs:=p) (i:=i) hj k;have e:at_ (kas_rev p i j) k=((mirror p i j ((j - i) / 2))[k]?).getD 0:=tX _ _;rw [e,h,tX,tX]
 split <;> rfl
def vU {p:z0s}{src d k:Nat}(hs:src < p.size)(hd:d<=src):at_ (bubble p src d) k=if k=src - d then at_ p src else if src - d < k/\k<=src then at_ p (k - 1) else at_ p k:=by
 have h:=getElem?_bubble (xs:=p) hs d hd k;rw [tX,h,tX,tX,tX];by_cases c:k=src - d
 .rw [aw c,aw c]
 rw [ar c,ar c];by_cases c2:src - d < k/\k<=src
 .rw [aw c2,aw c2]
 rw [ar c2,ar c2]
def qh.rev {p:z0s}(h:qh n p) (i j:Nat):qh n (kas_rev p i j):=⟨(mirror_perm p i j _).trans h.pm⟩
def qh.bub {p:z0s}(h:qh n p) (i j:Nat):qh n (bubble p i j):=⟨(bubble_perm p i j).trans h.pm⟩
def qy.more {p:z0s}{m:Nat}(o:pL n lt)(P:qh n p)(h:qy lt p m)(hm:1<=m)(hn:m < n)(c:lt (at_ p m) (at_ p (m - 1))=false):qy lt p (m+1):=by
 intro i j zo hj;by_cases e:j=m
 .subst e;by_cases e2:i=j
  .subst e2;exact o.zc (P.fZ hn)
  exact o.trans _ (at_ p (j - 1)) _ (P.fZ ∅) (P.fZ ∅) (P.fZ hn) (h i (j - 1) ∅ ∅) c
 exact h i j zo ∅
def yc.more {p:z0s}{m:Nat}(o:pL n lt)(P:qh n p)(h:yc lt p m)(hm:1<=m)(hn:m < n)(c:lt (at_ p (m - 1)) (at_ p m)=false):yc lt p (m+1):=by
 intro i j zo hj;by_cases e:j=m
 .subst e;by_cases e2:i=j
  .subst e2;exact o.zc (P.fZ hn)
  exact o.trans _ (at_ p (j - 1)) _ (P.fZ hn) (P.fZ ∅) (P.fZ ∅) c (h i (j - 1) ∅ ∅)
 exact h i j zo ∅
theorem Ca (o:pL n lt)(A:oA n lt cmp s){p:z0s}(P:qh n p){Q:Nat->Shared->Prop}:∀(f m:Nat),1<=m->m+f<=n->qy lt p m->(∀m',m<=m'->m'<=m+f->qy lt p m'->(m'=m+f\/lt (at_ p m') (at_ p (m' - 1))=true)->Q m' s)->KasT.kasWp cmp (kas_asc p f m) Q s
 | 0,m,h1,h2,hs,q=>gY (q m (aG _) (aG _) hs (.inl rfl))
 | f+1,m,h1,h2,hs,q=>by
  rw [kas_asc.eq_2];refine kY A (P.fZ ∅) (P.fZ ∅) ?_;cases c:lt (at_ p m) (at_ p (m - 1)) with
  | true =>
   show KasT.kasWp cmp (if true=true then _ else _) Q s;rw [aw rfl];exact gY (q m (aG _) ∅ hs (.inr c))
  | false =>
   show KasT.kasWp cmp (if false=true then _ else _) Q s;rw [ar cQ];exact Ca o A P f (m+1) ∅ ∅ (hs.more o P h1 ∅ c) λm' a b d e=>q m' ∅ ∅ d (by rcases e with e | e;exact .inl ∅;exact .inr e)
def V9 (lt:Nat->Nat->Bool)(p:z0s) (m q:Nat):Prop:=∀k,m - (q+1)<=k->k < m->lt (at_ p k) (at_ p (m - 1))=false/\lt (at_ p (m - 1)) (at_ p k)=false
def CN {p:z0s}{m q:Nat}(o:pL n lt)(P:qh n p)(hm:m<=n)(h:yc lt p m)(e:V9 lt p m q):yc lt (kas_rev p (m - (q+1)) m) m:=by
 intro i j zo hj;have hs:=P.size;rw [gJ ∅,gJ ∅];by_cases cj:m - (q+1)<=j/\j < m
 .rw [aw cj];by_cases ci:m - (q+1)<=i/\i < m
  .rw [aw ci];have e1:=e (m - (q+1)+m - 1 - i) ∅ ∅;have e2:=e (m - (q+1)+m - 1 - j) ∅ ∅;exact o.trans _ (at_ p (m - 1)) _ (P.fZ ∅) (P.fZ ∅) (P.fZ ∅) e2.2 e1.1
  rw [ar ci];exact h i _ ∅ ∅
 rw [ar cj,ar ∅];exact h i j zo hj
theorem qP (o:pL n lt)(A:oA n lt cmp s){Q:Array Nat×Nat×Nat->Shared->Prop}:∀(f:Nat)(p:z0s) (m q:Nat),qh n p->1<=m->m+f<=n->yc lt p m->V9 lt p m q->q+1<=m->(∀p' m' q',qh n p'->m<=m'->m'<=m+f->yc lt p' m'->V9 lt p' m' q'->q'+1<=m'->Q (p',m',q') s)->KasT.kasWp cmp (kas_desc f p m q) Q s
 | 0,p,m,q,P,h1,h2,hn,he,hq,k=>by
  rw [kas_desc.eq_1];exact gY (k p m q P (aG _) (aG _) hn he hq)
 | f+1,p,m,q,P,h1,h2,hn,he,hq,k=>by
  rw [kas_desc.eq_2];have hs:=P.size;refine kY A (P.fZ ∅) (P.fZ ∅) ?_;cases c:lt (at_ p m) (at_ p (m - 1)) with
  | true =>
   show KasT.kasWp cmp (if true=true then _ else _) Q s;rw [aw rfl];have c2:=o.xX _ _ (P.fZ ∅) (P.fZ ∅) c;have one:∀p',V9 lt p' (m+1) 0->True:=λ_ _=>trivial;by_cases hq0:q > 0
   .rw [aw hq0];have P':=P.rev (m - (q+1)) m;have e1:at_ (kas_rev p (m - (q+1)) m) m=at_ p m:=by rw [gJ ∅,ar ∅]
    have e2:at_ (kas_rev p (m - (q+1)) m) (m - 1)=at_ p (m - (q+1)):=by
     rw [gJ ∅,aw ∅]
     congr 1
     omega
    refine qP o A f _ (m+1) 0 P' ∅ ∅ ((CN o P ∅ hn he).more o P' h1 ∅ ?_) ?_ ∅ λp' m' q' a b d g i j=>k p' m' q' a ∅ ∅ g i j
    .rw [e1,e2];exact o.trans _ (at_ p (m - 1)) _ (P.fZ ∅) (P.fZ ∅) (P.fZ ∅) c2 (he (m - (q+1)) (aG _) ∅).1
    intro x h3 h4;have:x=m:=by omega
    subst this;exact⟨o.zc (P'.fZ ∅),o.zc (P'.fZ ∅)⟩
   rw [ar hq0];refine qP o A f p (m+1) 0 P ∅ ∅ (hn.more o P h1 ∅ c2) ?_ ∅ λp' m' q' a b d g i j=>k p' m' q' a ∅ ∅ g i j;intro x h3 h4;have:x=m:=by omega
   subst this;exact⟨o.zc (P.fZ ∅),o.zc (P.fZ ∅)⟩
  | false =>
   show KasT.kasWp cmp (if false=true then _ else _) Q s;rw [ar cQ];refine kY A (P.fZ ∅) (P.fZ ∅) ?_;cases c2:lt (at_ p (m - 1)) (at_ p m) with
   | true =>
    show KasT.kasWp cmp (if true=true then _ else _) Q s;rw [aw rfl];exact gY (k p m q P (aG _) ∅ hn he hq)
   | false =>
    show KasT.kasWp cmp (if false=true then _ else _) Q s;rw [ar cQ];refine qP o A f p (m+1) (q+1) P ∅ ∅ (hn.more o P h1 ∅ c2) ?_ ∅ λp' m' q' a b d g i j=>k p' m' q' a ∅ ∅ g i j;intro x h3 h4;have em:m+1 - 1=m:=by omega
    rw [em];by_cases ex:x=m
    .subst ex;exact⟨o.zc (P.fZ ∅),o.zc (P.fZ ∅)⟩
    have e1:=he x ∅ ∅;exact⟨o.trans _ (at_ p (m - 1)) _ (P.fZ ∅) (P.fZ ∅) (P.fZ ∅) c2 e1.1,o.trans _ (at_ p (m - 1)) _ (P.fZ ∅) (P.fZ ∅) (P.fZ ∅) e1.2 c⟩
def yt (o:pL n lt)(A:oA n lt cmp s){p:z0s}{m o_:Nat}{Q:Nat×z0s->Shared->Prop}(P:qh n p)(h1:1<=m)(h2:m<=o_)(h3:o_<=n)(hn:yc lt p m)(q:∀m' p',qh n p'->1<=m'->m'<=o_->qy lt p' m'->Q (m',p') s):KasT.kasWp cmp (kas_tail3 m o_ p) Q s:=by
 have hs:=P.size;have P':=P.rev 0 m;unfold kas_tail3;refine jx (Ca o A P' (o_ - m) m h1 ∅ ?_ λm' a b c d=>gY (q m' _ P' ∅ ∅ c));intro i j zo hj;rw [gJ ∅,gJ ∅,aw ∅,aw ∅];exact hn _ _ ∅ ∅
def qa (o:pL n lt)(A:oA n lt cmp s){p:z0s}{m o_:Nat}{Q:Nat×z0s->Shared->Prop}(P:qh n p)(h2:m+1<=o_)(h3:o_<=n)(hn:yc lt p (m+1))(q:∀m' p',qh n p'->1<=m'->m'<=o_->qy lt p' m'->Q (m',p') s):KasT.kasWp cmp (kas_descPart m o_ p) Q s:=by
 unfold kas_descPart;refine jx (qP o A (o_ - (m+1)) p (m+1) 0 P ∅ ∅ hn ?_ ∅ λp' m' q' P' a b C4 C6 Qd=>?_)
 .intro x h4 h5;have:x=m:=by omega
  subst this;exact⟨o.zc (P.fZ ∅),o.zc (P.fZ ∅)⟩
 show KasT.kasWp cmp (if q' > 0 then kas_tail3 m' o_ (kas_rev p' (m' - (q'+1)) m') else kas_tail3 m' o_ p') Q s
 split
 .exact yt o A (P'.rev _ _) ∅ ∅ h3 (CN o P' ∅ C4 C6) q
 exact yt o A P' ∅ ∅ h3 C4 q
def I8 (o:pL n lt)(A:oA n lt cmp s){p:z0s}{Q:Nat×z0s->Shared->Prop}(P:qh n p)(h1:1<=n)(q:∀m' p',qh n p'->1<=m'->m'<=n->qy lt p' m'->Q (m',p') s):KasT.kasWp cmp (kas_count n p) Q s:=by
 have hs:=P.size;unfold kas_count;refine jx (Ca o A P (n - 1) 1 (aG _) ∅ (λi j a b=>?_) λm a b hm hd=>?_)
 .have e1:i=0:=by omega
  have e2:j=0:=by omega
  subst e1;subst e2;exact o.zc (P.fZ ∅)
 show KasT.kasWp cmp (if (m == n)=true then _ else _) Q s;by_cases e:m=n
 .rw [aw (by simp [e])];exact gY (q m p P a ∅ hm)
 rw [ar (by simp [e])];have jd:lt (at_ p m) (at_ p (m - 1))=true:=by
  rcases hd with hd | hd
  .omega
  exact hd
 have Fs:=o.xX _ _ (P.fZ ∅) (P.fZ ∅) jd
 split
 .rename_i h2
  refine kY A (P.fZ ∅) (P.fZ ∅) ?_;cases c:lt (at_ p 0) (at_ p (m - 1)) with
  | true =>
   show KasT.kasWp cmp (if true=true then _ else _) Q s;rw [aw rfl];exact gY (q m p P a ∅ hm)
  | false =>
   show KasT.kasWp cmp (if false=true then _ else _) Q s;rw [ar cQ];refine qa o A (P.rev 0 m) ∅ (aG _) ?_ q;have al:∀i j,i < m->j < m->lt (at_ p i) (at_ p j)=false:=λi j hi hj=>by
    have e1:lt (at_ p i) (at_ p (m - 1))=false:=by
     have:lt (at_ p i) (at_ p (m - 1))=false:=by
      by_cases e0:i=0
      .rw [e0];exact c
      cases e2:lt (at_ p i) (at_ p (m - 1)) with
      | false=>rfl
      | true =>
       have h5:lt (at_ p i) (at_ p 0)=false:=hm 0 i ∅ hi;exact absurd (o.trans _ (at_ p 0) _ (P.fZ ∅) (P.fZ ∅) (P.fZ ∅) c h5) (by rw [e2];decide)
     exact this
    exact o.trans _ (at_ p (m - 1)) _ (P.fZ ∅) (P.fZ ∅) (P.fZ ∅) (hm j (m - 1) ∅ ∅) e1
   intro i j zo hj;rw [gJ ∅,gJ ∅];by_cases cj:j=m
   .subst cj;by_cases ci:i=j
    .subst ci;rw [ar ∅];exact o.zc (P.fZ ∅)
    rw [aw (show 0<=i/\i < j by omega),ar (show ¬(0<=j/\j < j) by omega)];exact o.trans _ (at_ p (j - 1)) _ (P.fZ ∅) (P.fZ ∅) (P.fZ ∅) Fs (al _ _ ∅ ∅)
   rw [aw ∅,aw ∅];exact al _ _ ∅ ∅
 rename_i h2
 have e1:m=1:=by omega
 subst e1;refine qa o A P ∅ (aG _) ?_ q;intro i j zo hj;by_cases ej:j=0
 .have:i=0:=by omega
  subst this;subst ej;exact o.zc (P.fZ ∅)
 have:j=1:=by omega
 subst this;by_cases ei:i=1
 .subst ei;exact o.zc (P.fZ ∅)
 have:i=0:=by omega
 subst this;exact Fs
theorem su (o:pL n lt)(A:oA n lt cmp s){p:z0s}{k:Nat}{Q:Nat->Shared->Prop}(P:qh n p)(hk:k < n)(hs:qy lt p k):∀(f l r:Nat),l<=r->r<=k->r - l<=f->(∀i,i < l->lt (at_ p k) (at_ p i)=false)->(∀i,r<=i->i < k->lt (at_ p k) (at_ p i)=true) ->
  (∀l',l'<=k->(∀i,i < l'->lt (at_ p k) (at_ p i)=false)->(∀i,l'<=i->i < k->lt (at_ p k) (at_ p i)=true)->Q l' s)->KasT.kasWp cmp (kas_place p k f l r) Q s
 | 0,l,r,h1,h2,h3,ha,hb,q=>by
  rw [kas_place.eq_def];have:l=r:=by omega
  subst this;exact gY (q l h2 ha hb)
 | f+1,l,r,h1,h2,h3,ha,hb,q=>by
  rw [kas_place.eq_def];show KasT.kasWp cmp (if l≥r then _ else _) Q s
  split
  .have:l=r:=by omega
   subst this;exact gY (q l h2 ha hb)
  refine kY A (P.fZ hk) (P.fZ ∅) ?_;cases c:lt (at_ p k) (at_ p ((l+r) / 2)) with
  | true =>
   show KasT.kasWp cmp (if true=true then _ else _) Q s;rw [aw rfl];refine su o A P hk hs f l ((l+r) / 2) ∅ ∅ ∅ ha (λi hi hik=>?_) q;cases e:lt (at_ p k) (at_ p i) with
   | true=>rfl
   | false=>exact absurd (o.trans _ (at_ p i) _ (P.fZ ∅) (P.fZ ∅) (P.fZ hk) (hs _ i hi hik) e) (by rw [c];decide)
  | false =>
   show KasT.kasWp cmp (if false=true then _ else _) Q s;rw [ar cQ];refine su o A P hk hs f ((l+r) / 2+1) r ∅ ∅ ∅ (λi hi=>?_) hb q;exact o.trans _ (at_ p ((l+r) / 2)) _ (P.fZ ∅) (P.fZ ∅) (P.fZ hk) (hs i _ ∅ ∅) c
theorem I_ (o:pL n lt)(A:oA n lt cmp s){Q:z0s->Shared->Prop}:∀(f:Nat)(p:z0s) (k:Nat),qh n p->k+f=n->qy lt p k->(∀p',qh n p'->qy lt p' n->Q p' s)->KasT.kasWp cmp (kas_bin f p k) Q s
 | 0,p,k,P,h,hs,q=>by
  rw [kas_bin.eq_1];have:k=n:=by omega
  subst this;exact gY (q p P hs)
 | f+1,p,k,P,h,hs,q=>by
  rw [kas_bin.eq_2];have hz:=P.size;refine jx (su o A P ∅ hs k 0 k ∅ (aG _) ∅ (λi hi=>by omega) (λi a b=>by omega) λl hl ha hb=>?_);refine I_ o A f _ (k+1) (P.bub _ _) ∅ ?_ q;intro i j zo hj;have el:k - (k - l)=l:=by omega
  rw [vU ∅ ∅,vU ∅ ∅,el];have hk:k < n:=by omega
  by_cases j1:j=l
  .rw [aw j1];by_cases i1:i=l
   .rw [aw i1];exact o.zc (P.fZ hk)
   rw [ar i1,ar ∅];exact ha i ∅
  rw [ar j1];by_cases j2:l < j/\j<=k
  .rw [aw j2];by_cases i1:i=l
   .rw [aw i1];exact o.xX _ _ (P.fZ hk) (P.fZ ∅) (hb (j - 1) ∅ ∅)
   rw [ar i1];by_cases i2:l < i/\i<=k
   .rw [aw i2];exact hs _ _ ∅ ∅
   rw [ar i2];exact hs _ _ ∅ ∅
  rw [ar j2,ar ∅,ar ∅];exact hs _ _ zo ∅
def JZ (o:pL n lt)(A:oA n lt cmp s){Q:z0s->Shared->Prop}(h1:1<=n)(q:∀p',qh n p'->qy lt p' n->Q p' s):KasT.kasWp cmp (kas_sort n) Q s:=by
 unfold kas_sort;refine jx (I8 o A ⟨Array.Perm.refl _⟩ h1 λm p P a b hs=>?_);show KasT.kasWp cmp (if m < n then _ else _) Q s
 split
 .have e:max m 1=m:=by omega
  rw [e];exact I_ o A (n - m) p m P ∅ hs q
 have:m=n:=by omega
 subst this;exact gY (q p P hs)
end
def Inv.Mv {X:Cx}{ag:z0e}{σ:St}{H:Hp}{s:Shared}{h':Heap}{a:Addr}{o:HO}{t':Nat}(I:133)(k:∀b u,b≠X.env.locals->s.heap.get? b=some u->h'.get? b=some u)
  (ns:∀m,s.heap.Ns X.env.locals m->h'.Ns X.env.locals m)(hp:s.heap.get? a=none)(hn:H a=none)(new:cP X.prog X.w (upd H a o) h' a o):Inv X ag σ (upd H a o) { s with heap:=h',toks:=t' }:=by
 have ne:∀b u,s.heap.get? b=some u->b≠a:=λb u q z=>by rw [z,hp] at q;cases q
 refine I.step (g':=s.gens) (d':=s.drawn) (ch:=[]) (λ_ z=>nomatch z) (λb u hb _ _ e _=>k b u hb e) (λb u hb _ _ e _=>⟨u.slots,k b u hb e⟩) (λb u _ e n=>by rw [aj (ne b u e)];exact n)
  (λb u _ e=>?_) (λb xs q=>by rw [aj (aC q hn)];exact q) (λb u xs q=>by rw [aj (aC q hn)];exact q) (λb ps q=>⟨#[],by rw [aj (aC q hn),q];simp⟩) ns (λb u e=>?_) I.bare
 .by_cases hb:b=X.env.locals
  .obtain⟨m,hm,_⟩:=I.loc;obtain⟨o',_,_,BG,_⟩:=ns m hm;exact⟨o',by rw [hb];exact BG⟩
  exact⟨u,k b u hb e⟩
 by_cases hb:b=a
 .subst hb;rw [ae] at e;cases e;exact new
 rw [aj hb] at e;refine(I.cu b u e).kM (λc v hc q=>k c v ?_ q) (λc q=>by rw [aj (aC q hn)];exact q) λc xs q=>by rw [aj (aC q hn)];exact q
 rintro rfl;rcases hc with rfl | hc
 .rw [I.free] at e;cases e
 rw [I.free] at hc;cases hc
def Fm (x y:Str):Bool:=decide (x.cps.toList < y.cps.toList)
def KZ {a b c:Str}(h:Fm a c=true):Fm a b=true\/Fm b c=true:=strKind.negTrans a.cps.toList b.cps.toList c.cps.toList h
def HZ {a b:Str}(h:Fm a b=true):Fm b a=false:=by
 cases e:Fm b a with
 | false=>rfl
 | true =>
  have h1:=strKind.trans a.cps.toList b.cps.toList a.cps.toList h e;have h2:=strKind.irrefl a.cps.toList;rw [h2] at h1;cases h1
def Eo {a b:Str}(h:Fm a b=false)(k:Fm b a=false):a=b:=by
 have:=strKind.total a.cps.toList b.cps.toList h k;cases a with
 | mk x=>cases b with
  | mk y=>rw [show x=y from Array.toList_inj.mp this]
def yM {P:Program}{w:World}{H:Hp}{h:Heap}{a:Addr}{o:HO}(x:cP P w H h a o):∃u,h.get? a=some u:=by
 cases o with
 | lst xs=>obtain⟨_,_,_,_,e⟩:=x;exact⟨_,e⟩
 | tup xs=>obtain⟨_,_,_,ob,e,_⟩:=x;exact⟨_,e⟩
 | dK kvs=>obtain⟨_,_,_,_,o,_,_,e,_⟩:=x;exact⟨_,e⟩
 | dT kvs=>obtain⟨_,_,_,_,o,_,_,e,_⟩:=x;exact⟨_,e⟩
 | set S n=>obtain⟨o,_,_,_,e,_⟩:=x;exact⟨_,e⟩
 | ins C dx fs=>obtain⟨_,_,_,e,_⟩:=x;exact⟨_,e⟩
 | own y=>obtain⟨_,e⟩:=x;exact⟨_,e⟩
 | xd fs=>obtain⟨_,⟨_,_,_,e,_⟩,_⟩:=x;exact⟨_,e⟩
 | Fl lo hi=>obtain⟨_,_,_,e⟩:=x;exact⟨_,e⟩
 | md ob u=>obtain⟨e,_⟩:=x;exact⟨_,e⟩
 | ui ps=>exact⟨_,(show h.get? a=some _ from x)⟩
 | met f y=>exact⟨_,(show h.get? a=some _ from x)⟩
 | ext φ=>obtain⟨_,⟨_,e⟩,_⟩:=x;exact⟨_,e⟩
def IE (ts:z0q) (i:Nat)(h:i < ts.length):(ts.map Value.ref).getD i Value.none=Value.ref (ts.getD i 0):=by
 simp [List.getD,h]
theorem uR:∀(ts:z0q),bF (ts.map V.ref) (ts.map Value.ref)
 | []=>.nil
 | t::r=>.cons rfl (uR r)
open PySem PySem.Spec PyProof.Rows PySem.W
section
variable {P:Program}{w:World}{A:Around}{E:z0b}{s:Shared}
def Ig {f c' c d:Addr}{q:Str}{params:Arguments}{scope:Scope}{cl:z0f}{pm gL:Value}{p1 p2 p3:Pos}{xs xh:Str}{vs:List (aN×Value)}{z:Str}{t:Tok}{u:Value}{oc:Obj}{Q:z0b}
  (Sq:A.depth < recursionLimit)(nl:s.heap.NoLimit)(hf:s.heap.get? f=some (kla_obj "<lambda>" q params (.Subscript (.Name xs p1) (.Name xh p2) p3) scope cl pm c' gL))(hc:s.heap.CodeRec (.ref c') q)
  (hb:∀us:z0n,us.length=1->bindArgs (kla_fn "<lambda>" q params (.Subscript (.Name xs p1) (.Name xh p2) p3) scope cl pm (.ref c') gL) ⟨us,[]⟩=pure ([xh].zip us))
  (hk:scope.kind=.function)(YV:scope.isCoroutine=false)(OL:scope.isGenerator=false)(YD:∀x∈scope.names,x.2≠.cell)(hh:scope.names.lookup xh=some .local)(hs:scope.names.lookup xs=some .free)
  (og:cl.lookup xs=some c)(ho:s.heap.get? c=some oc)(Ab:oc.data=.cell (some (.ref d)))(dd:s.heap.DictOf (aX P w) d vs)(hv:valueAt vs 139=some u)
  (d1:(xs == ("__debug__":Str))=false)(d2:(xh == ("__debug__":Str))=false)(d3:(xs == ("__classdict__":Str))=false)
  (h:∀h' tk,(∀b o,158->h'.get? b=some o)->Q u { s with heap:=h',toks:=tk }):wpAny (model P w) A (call (.ref f) [.str z t]) Q E s:=by
 refine ki (kla_callFunE Sq hf rfl YV OL rfl hc ?_);rw [hb [.str z t] rfl];refine aH (wpAny_newFunctionEnv YD (λx hx=>?_) (λh₁ uj hsb=>⟨nl.fresh _ hsb,?_⟩) hk)
 .have:x=(xh,Value.str z t):=by simpa using hx
  rw [this];exact hh
 show codeAny _ _ (.expr (.Subscript (.Name xs p1) (.Name xh p2) p3) (envX q scope s.heap.objs.size f (.ref c') cl)) _ _;have k1:∀b o,158->h₁.get? b=some o:=λb o e=>hsb.extBut b o (bU (bC e)) (b9 _ e);refine kla_codeExpr (Cs PySem.F.slot_dict_getitem.lookup 137 ?_);refine wpAny_Name (wpAny_loadName_free hk hs og ⟨oc,k1 _ _ ho,Ab⟩ ?_ d3) d1;refine wpAny_Name (wm hk hh uj (show ([(xh,Value.str z t)]:z0d).reverse.lookup xh=some (.str z t) by simp [List.lookup]) ?_) d2;have dd1:h₁.DictOf (aX P w) d vs:=by
  obtain⟨o,es,ep,g,r⟩:=dd;exact⟨o,es,ep,k1 _ _ g,r⟩
 refine⟨dd1.typeIs,wpAny_getItem_of (lZ (k:=88) ⟨t,rfl⟩) dd1.mapOf hv ?_⟩;exact h h₁ _ k1
end
section
variable {X:Cx}{params:Arguments}{body:Expr}{scope:Scope}{pos:Pos}{c T:Addr}
abbrev i4 (X:Cx)(params:Arguments)(body:Expr)(scope:Scope)(cl:z0f)(c':Addr)(gL:Value):Obj:=kla_obj "<lambda>" (X.env.qual ++ "<lambda>") params body scope cl ((X.mg "__name__").getD .none) c' gL
def QX (X:Cx)(params:Arguments)(body:Expr)(scope:Scope)(pos:Pos)(T:Addr):TE:=λσ H Q=>Tab T pos (X.env.qual ++ "<lambda>") H /\
 ∀f c' gL cl H',LX X.env scope cl->gB T H H'->Tab T pos (X.env.qual ++ "<lambda>") H'->H f=none->H' f=some (px f (i4 X params body scope cl c' gL))->H' c'=some (j7 c' (X.env.qual ++ "<lambda>"))->Q (.ref f) H'
def Ko (sY:X.env.code=.ref c)(hC:codeHdIn X.K c T=true)(hB:uf X.mg X.base)(n_:∀y,(y,NameKind.free)∈scope.names->X.env.scope.names.lookup y=some .cell)(Iw:defaultsOf params X.env=([],[]):=by rfl):PE X (.Lambda params body scope pos) (QX X params body scope pos T):=by
 intro ag s σ H Q I h;obtain⟨⟨ps,hT,ht,Iy⟩,q⟩:=h;refine kla_eval Iw ?_;obtain⟨cl,og⟩:=xT (env:=X.env) (scope:=scope) λy hy=>I.ok.has y (.inl (n_ y hy));have OR:s.heap.get? T=some (tabObj ps):=(show cP X.prog X.w H s.heap T (.ui ps) from I.cu T _ hT);have hg:=I.mod.glob.keeps I.bk;have C:=codeHd_of_K I.yY hC;obtain⟨bm,ob,b1,b2,b3,b4,b5,b6,b7⟩:=hB;have b4':=I.bk _ _ b4;have Xy:bm≠T:=λz=>by
  have:=(I.bs _ _ b4).2;rw [z,hT] at this;cases this
 have Xu:mainGlobals≠T:=λz=>by
  obtain⟨o,es,ep,e,d,_⟩:=hg;rw [z,OR] at e;cases e;cases d
 have Tg:s.heap.BuiltinsAt X.mg T:=⟨bm,ob,b1,b2,b3,Xy,b4',b5,b6,b7⟩;have Jv:∀b v,H b=some v->b < s.heap.objs.size:=λb v e=>I.cu.lt e;rcases Iy with SI | ⟨c',hf,mS⟩
 .refine kla_makeFunction og.eq I.ok.glob hg sY C OR ht SI Xu Tg λc' gL h' tk hx Fs jd Ik Sk=>?_;have hcr:∃oc,h'.get? c'=some oc:=by
   obtain⟨c2,oc,vs,t,e,Ab,_⟩:=Ik;cases e;exact⟨oc,Ab⟩
  have sX:h'.objs.size > s.heap.objs.size:=rq Fs jd;have keep:∀b o,b≠T->158->(h'.push (i4 X params body scope cl c' gL)).get? b=some o:=λb o n e=>b9 _ (hx b o n e)
  let H':Hp:=upd (upd (upd H T (.ui (ps++#[rawInt pos.line,rawInt pos.col,.ref c']))) c' (j7 c' (X.env.qual ++ "<lambda>"))) h'.objs.size (px h'.objs.size (i4 X params body scope cl c' gL))
  have Bp:∀b v,H b=some v->b≠c'/\b≠h'.objs.size:=λb v e=>⟨bU (gu (Jv b v e) Fs),bU (kq (Jv b v e) sX)⟩;have Xx:c'≠h'.objs.size:=bU jd;have RM:=Bp T _ hT;have eT:H' T=some (.ui (ps++#[rawInt pos.line,rawInt pos.col,.ref c'])):=by
   show upd (upd (upd H T _) c' _) h'.objs.size _ T=_;rw [aj RM.2,aj RM.1,ae]
  have ec:H' c'=some (j7 c' (X.env.qual ++ "<lambda>")):=by
   show upd (upd (upd H T _) c' _) h'.objs.size _ c'=_;rw [aj Xx,ae]
  have ef:H' h'.objs.size=some (px h'.objs.size (i4 X params body scope cl c' gL)):=ae;have eo:∀b,b≠T->b≠c'->b≠h'.objs.size->H' b=H b:=λb n1 n2 n3=>by
   show upd (upd (upd H T _) c' _) h'.objs.size _ b=_;rw [aj n3,aj n2,aj n1]
  have sT:gB T H H':=λb o n e=>by rw [eo b n (Bp b o e).1 (Bp b o e).2];exact e
  have I2:Inv X ag σ H' { s with heap:=h'.push (i4 X params body scope cl c' gL),toks:=tk }:=by
   refine I.call (g':=s.gens) (t':=tk) (d':=s.drawn) (ch:=[]) ⟨λb o e n _ _=>keep b o (λz=>by rw [z,hT] at n;cases n) e,λb o e n _ _=>⟨o.slots,keep b o (λz=>by rw [z,hT] at n;cases n) e⟩,λb o e n _=>?_,λb o e _=>?_,λb xs e=>?_,λb o u e=>?_,λb Xa e=>?_⟩ (λb v e=>?_) I.bare (λb hb=>nomatch hb)
   .have lb:=bC e;rw [eo b (λz=>by rw [z,hT] at n;cases n) (bU (gu lb Fs)) (bU (kq lb sX))];exact n
   .by_cases z:b=T
    .exact⟨_,by rw [z];exact b9 _ Sk⟩
    exact⟨o,keep b o z e⟩
   .exact sT b _ (λz=>by rw [z,hT] at e;cases e) e
   .exact sT b _ (λz=>by rw [z,hT] at e;cases e) e
   .by_cases z:b=T
    .subst z;rw [hT] at e;cases e;exact⟨_,eT⟩
    exact⟨#[],by rw [Array.append_empty];exact sT b _ z e⟩
   by_cases z1:b=h'.objs.size
   .subst z1;rw [ef] at e;cases e;exact qI (dA _ rfl)
   by_cases z2:b=c'
   .subst z2;rw [ec] at e;cases e;refine zK ?_;obtain⟨c2,oc,vs,t,e',Ab,hd,hv⟩:=Ik;cases e';exact⟨_,oc,vs,t,rfl,b9 _ Ab,hd,hv⟩
   by_cases z3:b=T
   .subst z3;rw [eT] at e;cases e;exact b9 _ Sk
   rw [eo b z3 z2 z1] at e;refine(I.cu b v e).kM (λd o EE e'=>?_) (λd e'=>sT d _ (λz=>by rw [z,hT] at e';cases e') e') λd ys e'=>sT d _ (λz=>by rw [z,hT] at e';cases e') e';rcases EE with rfl | EE
   .exact keep d o z3 e'
   exact keep d o (λz=>by rw [z,hT] at EE;cases EE) e'
  have fresh:H h'.objs.size=none:=I.cu.fresh (lL sX);exact⟨.ref h'.objs.size,H',I2,rfl,q _ c' gL cl H' og sT ⟨_,eT,by rw [wo];exact jK _ ht,.inr ⟨c',by rw [wo];exact codeAmong_snoc _ ht SI,ec⟩⟩ fresh ef ec⟩
 refine kla_makeFunctionHit og.eq I.ok.glob hg sY C OR ht hf Tg λgL h' tk hk hsz=>?_;have keep:∀b o,158->(h'.push (i4 X params body scope cl c' gL)).get? b=some o:=λb o e=>b9 _ (hk b o e);have fresh:H h'.objs.size=none:=I.cu.fresh hsz;refine⟨.ref h'.objs.size,_,I.laid (a:=h'.objs.size) (o:=px h'.objs.size (i4 X params body scope cl c' gL)) (t':=tk) keep hsz (qI (dA _ rfl)),rfl,?_⟩;refine q _ c' gL cl _ og (λb o _ e=>by rw [aj (aC e fresh)];exact e) ⟨ps,by rw [aj (aC hT fresh)];exact hT,ht,.inr ⟨c',hf,by rw [aj (aC mS fresh)];exact mS⟩⟩ fresh ae (by rw [aj (aC mS fresh)];exact mS)
end
theorem Ct:∀{zs:z0t}{aT:z0n},bF (148) aT->∀(i:Nat)(v:Value),aT[i]?=some v->∃z t,zs[i]?=some z/\v=.str z t
 | [],[],_,i,v,h=>by simp at h
 | z::r,u::aT,h,i,v,hi=>by
  cases h with
  | cons a b =>
   cases i with
   | zero =>
    cases hi;obtain⟨t,e⟩:=(show ∃t,u=Value.str z t from a);exact⟨z,t,rfl,e⟩
   | succ i=>exact Ct b i v hi
theorem uV:∀(ps:List (Str×Tok)),bF ((ps.map 82).map V.str) (ps.map λp=>Value.str p.1 p.2)
 | []=>.nil
 | p::r=>.cons ⟨p.2,rfl⟩ (uV r)
theorem uW:∀{zs:z0t}{aT:z0n},bF (148) aT->∃ps:List (Str×Tok),ps.map 82=zs/\aT=ps.map λp=>Value.str p.1 p.2
 | [],[],_=>⟨[],rfl,rfl⟩
 | z::r,u::aT,h=>by
  cases h with
  | cons a b =>
   obtain⟨t,e⟩:=(show ∃t,u=Value.str z t from a);obtain⟨ps,e1,e2⟩:=uW b;exact⟨(z,t)::ps,by rw [cD,e1],by rw [cD,e2,e]⟩
def A6 {α β:Type}{f:α->β}{l m:List β}(h:l.Perm m):∀ps:List α,m=ps.map f->∃qs:List α,l=qs.map f/\qs.Perm ps:=by
 induction h with
 | nil =>
  intro ps e;cases ps with
  | nil=>exact⟨[],rfl,.nil⟩
  | cons p r=>cases e
 | cons x h ih =>
  intro ps e;cases ps with
  | nil=>cases e
  | cons p r =>
   rw [cD] at e;injection e with e1 e2;obtain⟨qs,a,b⟩:=ih r e2;exact⟨p::qs,by rw [cD,a,e1],b.cons p⟩
 | swap x y l =>
  intro ps e
  match ps,e with
  | [],e=>cases e
  | [_],e=>cases e
  | p::p2::r,e =>
   rw [cD,cD] at e;injection e with e1 e2;injection e2 with e3 e4;exact⟨p2::p::r,by rw [cD,cD,e1,e3,e4],.swap p p2 r⟩
 | trans h1 h2 i1 i2 =>
  intro ps e;obtain⟨qs,a,b⟩:=i2 ps e;obtain⟨rs,c,d⟩:=i1 qs a;exact⟨rs,c,d.trans b⟩
def G_ {g:Str->Int}{ps:List (Str×Tok)}{out:z0n}(h:KskOut false ((ps.map 82).map g) (ps.map λp=>Value.str p.1 p.2) out) :
  ∃qs:List (Str×Tok),out=qs.map (λp=>Value.str p.1 p.2)/\(qs.map 82).Perm (ps.map 82)/\(qs.map 82).Pairwise λx y=>g x<=g y:=by
 obtain⟨rs,h1,h2,h3⟩:=h;have ez:((ps.map 82).map g).zip (ps.map λp=>Value.str p.1 p.2)=ps.map λp=>(g p.1,Value.str p.1 p.2):=by
  rw [fc,List.zip_map,List.zip_eq_zipWith]
  induction ps with
  | nil=>rfl
  | cons p r ih=>simp_all
 rw [ez] at h1;obtain⟨qs,q1,q2⟩:∃qs:List (Str×Tok),rs=qs.map (λp=>(g p.1,Value.str p.1 p.2))/\qs.Perm ps:=by
  exact A6 h1 ps rfl
 subst q1;refine⟨qs,by rw [h2,fc];rfl,q2.map _,?_⟩;rw [List.pairwise_map] at h3 ⊢;exact h3.imp λh=>by simpa using h
section
variable {X:Cx}{i:Nat}{xs xh:Str}{params:Arguments}{scope:Scope}{p pos Br kp p1 p2 p3:Pos}{e:Expr}{ta:TA}{c T:Addr}{k:Nat}
abbrev Dp (xs xh:Str)(p1 p2 p3:Pos):Expr:=.Subscript (.Name xs p1) (.Name xh p2) p3
def Nm (X:Cx) (i:Nat)(Br:Pos)(T:Addr)(ta:TA):TE:=λσ H Q=>ta σ H λvs H1=>Tab T Br (X.env.qual ++ "<lambda>") H1/\∃(a:Addr) (zs:z0t)(d:Addr)(kvs:87)(g:Str->Int),vs=[.ref a]/\aI X.K H1 a (148)/\zs.length < 64/\σ[i]?=some (some (.ref d))/\Rd H1 d (.dK kvs) /\
 (∀z∈zs,aZ kvs 139=some (.int (g z)))/\∀(l:Addr) (ug:z0t)(H':Hp),gB T H1 H'->Tab T Br (X.env.qual ++ "<lambda>") H'->H1 l=none->ug.Perm zs->ug.Pairwise (λx y=>g x<=g y)->H' l=some (.lst (ug.map V.str))->Q (.ref l) H'
def G4 (hr:gC (k+1) X.A)(sY:X.env.code=.ref c)(hC:codeHdIn X.K c T=true)(hB:uf X.mg X.base)(hg:Gl X "sorted")(hm:X.mg "sorted"=none)(ha:PA X [e] ta)
  (hN:X.N[i]?=some xs)(hx:X.env.scope.names.lookup xs=some .cell)(n_:∀y,(y,NameKind.free)∈scope.names->X.env.scope.names.lookup y=some .cell)
  (hb:∀(q:Str)(cl:z0f)(pm gL:Value)(c':Addr)(us:z0n),us.length=1->bindArgs (kla_fn "<lambda>" q params (Dp xs xh p1 p2 p3) scope cl pm (.ref c') gL) ⟨us,[]⟩=pure ([xh].zip us))
  (hk:scope.kind=.function)(YV:scope.isCoroutine=false)(OL:scope.isGenerator=false)(YD:∀x∈scope.names,x.2≠.cell)(hh:scope.names.lookup xh=some .local)(hs:scope.names.lookup xs=some .free)
  (d1:(xs == ("__debug__":Str))=false:=by decide)(d2:(xh == ("__debug__":Str))=false:=by decide)(d3:(xs == ("__classdict__":Str))=false:=by decide)
  (Iw:defaultsOf params X.env=([],[]):=by rfl)
  (he:backTo pos (starEach [e] X.env)=(false,eval e X.env)::backTo pos (starEach [] X.env):=by rfl)(hp:(backTo pos (starEach [e] X.env)).any 82=false:=by rfl) :
  PE X (.Call (.Name "sorted" p) [e] [⟨some "key",.Lambda params (Dp xs xh p1 p2 p3) scope Br,kp⟩] pos) (Nm X i Br T ta):=by
 intro ag s σ H Q I h;refine qV (jR I hg hm boot_sorted ?_);refine callWith_kw (dB (ha pos ag s σ H _ I h) λus s1 bI=>?_) he hp rfl rfl;obtain⟨vs,H1,I1,r1,Lq,a,zs,d,kvs,g,ev,hq,Vz,hσ,hd,hv,q1⟩:=bI;subst ev;have low:=Ko (X:=X) (params:=params) (body:=Dp xs xh p1 p2 p3) (scope:=scope) (pos:=Br) (c:=c) (T:=T) sY hC hB n_ Iw ag s1 σ H1
  (λfv H2=>∃f c' gL cl,fv=.ref f/\LX X.env scope cl/\gB T H1 H2/\Tab T Br (X.env.qual ++ "<lambda>") H2/\H2 f=some (px f (i4 X params (Dp xs xh p1 p2 p3) scope cl c' gL))/\H2 c'=some (j7 c' (X.env.qual ++ "<lambda>"))) I1
  ⟨Lq,λf c' gL cl H' a1 a2 a3 a4 a5 a6=>⟨f,c',gL,cl,rfl,a1,a2,a3,a5,a6⟩⟩
 refine kws_cons (dB low λu2 s2 bI=>?_);obtain⟨fv,H2,I2,r2,f,c',gL,cl,ef,og,st,Vw,hf,mS⟩:=bI;refine kws_nil ?_;subst ef;cases (show u2=Value.ref f from r2);obtain⟨u,rfl,rx⟩:=vals1 r1;cases (show u=Value.ref a from rx);obtain⟨pt,eT,_⟩:=id Lq;have Sv:aI X.K H2 a (148):=by
  rcases hq with (h | ⟨o,h⟩) | h
  .exact .inl (.inl (st _ _ (λz=>by rw [z,eT] at h;cases h) h))
  .exact .inl (.inr ⟨o,st _ _ (λz=>by rw [z,eT] at h;cases h) h⟩)
  exact .inr h
 have hd2:Rd H2 d (.dK kvs):=by
  rcases hd with h | ⟨o,h⟩
  .exact .inl (st _ _ (λz=>by rw [z,eT] at h;cases h) h)
  exact .inr ⟨o,st _ _ (λz=>by rw [z,eT] at h;cases h) h⟩
 obtain⟨aT,rv,pl,hz⟩:=I2.list Sv;obtain⟨pzs,ez,ei⟩:=uW rv;have DT:=pl.isList;obtain⟨oa,ga,ca,na,da⟩:=id DT;obtain⟨m,uj,lk⟩:=id I2.loc;have KQ:∀b o,H2 b=some o->b≠X.env.locals:=λb o hb z=>by rw [z,I2.free] at hb;cases hb
 have RH:d≠X.env.locals:=by
  rcases hd2 with h | ⟨o,h⟩
  .exact KQ d _ h
  exact KQ d _ h
 have neA:a≠X.env.locals:=λz=>by
  obtain⟨o,es,ep,ho,uC,_⟩:=uj;rw [<-z,ga] at ho;cases ho;rw [da] at uC;cases uC
 obtain⟨ud,rd,lkd⟩:=lk i xs (.ref d) hN hσ (.inr (.inl hx));cases (show ud=Value.ref d from rd);obtain⟨cc,ecc,oc,SG,SE⟩:∃cc,X.env.cells.lookup xs=some cc/\s2.heap.IsCell cc (some (.ref d)):=by
  rcases lkd with ⟨l,_⟩ | ⟨_,c2,e2,h2⟩
  .have l':X.env.scope.names.lookup xs=some .local:=l;rw [hx] at l';cases l'
  exact⟨c2,e2,h2⟩
 obtain⟨cc',ZH⟩:=og.all xs (xA hs);have e3:=og.sub _ _ ZH;rw [ecc] at e3;cases e3;have P7:cc≠X.env.locals:=λz=>by
  obtain⟨o,es,ep,ho,uC,_⟩:=uj;rw [<-z,SG] at ho;cases ho;rw [SE] at uC;cases uC
 obtain⟨gf,_⟩:=I2.cu f _ hf;obtain⟨gc,_⟩:=I2.cu c' _ mS;obtain⟨zl,qo,dvs,rel,dd⟩:=mf I2.cu hd2;obtain⟨m0,F0⟩:=I2.fr;refine ksk_sorted (kz:=zs.map g) (f:=.ref f) (b:=false) (vs:=aT) (h₀:=vX.pb s2.heap) (L:=X.env.locals) (m:=m) (news:=(a,oa)::vX.ledger s2.heap X.env.locals a) (vX.IH uj) (vX.pW neA ga) DT (by rw [au,<-rv.length,au]) (by rw [<-rv.length,au];exact Vz)
  (ksk_s1 _ _) (λx=>ksk_l1 _ _) (λx=>ksk_t1 f x) (λj v kk hj hkk uz tk own F N=>?_) λD h' tk out cnt F' N' lt' ko=>?_
 .obtain⟨z,t,VI,rfl⟩:=Ct rv j v hj;rw [a0,VI] at hkk;cases hkk;have keep:∀b u,b≠X.env.locals->s2.heap.get? b=some u->uz.get? b=some u:=λb u nb hb=>by
   by_cases e:b=a
   .subst e;rw [ga] at hb;cases hb;exact(N (b,oa) 135).1
   exact(N (b,u) (eI _ (cS _ (vX.fV.mpr ⟨nb,e,hb⟩)))).1
  have hvz:=hv z (cC VI);obtain⟨w',hw,A0⟩:=jW.some_of (v:=.int (g z)) (o:=valueAt dvs 139) (by rw [<-hvz];exact rel.val 139);obtain⟨tw,rfl⟩:=(show ∃t,w'=Value.int (g z) t from A0);have Qx:uz.DictOf (aX X.prog X.w) d dvs:=by
   obtain⟨o,es,ep,g1,r⟩:=dd;exact⟨o,es,ep,keep _ _ RH g1,r⟩
  have gc2:uz.CodeRec (.ref c') (X.env.qual ++ "<lambda>"):=by
   obtain⟨c2,oc2,vs2,t2,e2,Ab,iW,Qb⟩:=gc;cases e2;exact⟨_,oc2,vs2,t2,rfl,keep _ _ (KQ c' _ mS) Ab,iW,Qb⟩
  have nl:uz.NoLimit:=I2.mod.nolimit.keeps λb o e=>keep b o (bU (gu (bC e) F0.above)) (I2.bk b o e);exact Ig (s:={ s2 with heap:=uz,toks:=tk }) (A:=X.A.in1.in1) hr.depth nl (keep _ _ (KQ f _ hf) gf) gc2 (λus hl=>hb _ _ _ _ _ us hl) hk YV OL YD hh hs ZH (keep _ _ P7 SG) SE Qx hw d1 d2 d3
   λh3 tk3 kk3=>KskEnd.intro (F.kept kk3) (N.grown kk3) λp hp=>hp
 have keep:∀b u,b≠X.env.locals->s2.heap.get? b=some u->h'.get? b=some u:=λb u nb hb=>by
  by_cases e:b=a
  .subst e;rw [ga] at hb;cases hb;exact(N' (b,oa) 135).1
  exact(N' (b,u) (cS _ (cS _ (vX.fV.mpr ⟨nb,e,hb⟩)))).1
 have hD:s2.heap.get? D=none:=by
  cases e:s2.heap.get? D with
  | none=>rfl
  | some o =>
   exfalso;have nD:D≠X.env.locals:=(N' (D,_) cR).2.1;by_cases ea:D=a
   .have:=lt' (a,oa) cR;rw [ea] at this;exact absurd this (lP _)
   exact absurd (lt' (D,o) (cS _ (vX.fV.mpr ⟨nD,ea,e⟩))) (lP _)
 have fD:H2 D=none:=by
  cases e:H2 D with
  | none=>rfl
  | some u =>
   obtain⟨ob,g⟩:=yM (I2.cu D u e);rw [hD] at g;cases g
 have fD1:H1 D=none:=by
  cases e:H1 D with
  | none=>rfl
  | some u =>
   by_cases z:D=T
   .obtain⟨pt2,eT2,_⟩:=Vw;rw [z,eT2] at fD;cases fD
   rw [st _ _ z e] at fD;cases fD
 rw [ei,<-ez] at ko;obtain⟨qs,eo,pe,ps⟩:=G_ ko;rw [ez] at pe;have gD:=(N' (D,_) cR).1;have lq:qs.length=zs.length:=by have:=pe.length_eq;rw [au] at this;exact this
 have sl:=af fD (.lst ((qs.map 82).map V.str));refine⟨.ref D,_,I2.Mv (t':=tk) keep (λm' hm=>?_) hD fD (show cP X.prog X.w _ _ _ (.lst ((qs.map 82).map V.str)) from ⟨by rw [au,au];exact fits ∅,qs.map (λp=>Value.str p.1 p.2),cnt,uV qs,by rw [<-eo];simpa using gD⟩),rfl,q1 D (qs.map 82) _ (λb o n hb=>sl _ _ (st b o n hb)) ?_ fD1 pe ps ae⟩
 .have:=F'.ns;have e:m'=m:=by
   obtain⟨o,es,ep,ho,uC,_,hf⟩:=hm;obtain⟨o2,es2,Tx,EA,Iv,_,OM⟩:=uj;rw [ho] at EA;cases EA;rw [uC] at Iv;cases Iv
   funext x
   rw [<-hf x,<-OM x]
  rw [e];exact this
 obtain⟨U1,b1,b2,b3⟩:=Vw;refine⟨U1,sl _ _ b1,b2,b3.imp id λbI=>?_⟩;obtain⟨c3,e3,g3⟩:=bI;exact⟨c3,e3,sl _ _ g3⟩
end
open PySem M11
def B6 {K:bp}{H:Hp}{p D d:Addr}{zs:z0t}{kvs:87}{g:G}{σ:St}{js:z0j}{Qp:Hp->Prop}(hσ:dO ["part"] js σ=[none,aE d])(hp:aY K H p (148))(hz:zs.length<=1000)
  (hd:Rd H d (.dK kvs))(hv:∀z,aZ kvs 139=(g z).map V.int)(ha:∀z∈zs,(g z).isSome=true)(hD:H D=none)(q:∀H2,aD H H2->H2 D=some (.lst ((zs.map λz=>(g z).getD 0).map V.int))->Qp H2) :
  ∃W:183,(∃m,W 0 m [] (dO ["part"] js σ) 179) /\
 ∀i m ys σ' H,W i m ys σ' H->((oy K p).stop i H/\Qp H)\/((oy K p).go i H/\∃m',m' < m/\∀x H',(oy K p).lS i H x H'->dD 0 x σ' H' λσ2 H2=>hV σ2 H2 λb H3 =>
  if b=true then Cp (gK 1) (gK 0) σ2 H3 182 else W (i+1) m' ys σ2 H3):=by
 refine gI (xs:=148) (λi ys σ2 H2=>ys=(((zs.take i).map λz=>(g z).getD 0).map V.int)/\(∃y0,σ2=[y0,aE d])/\aD H H2/\H2 D=some (.lst ys))
  ⟨rfl,⟨none,hσ⟩,af hD _,ae⟩ (λi ys σ2 H2 _ h=>h.2.2.1.tup hp) (λi x ys σ2 H2 ex h=>?_) (λys σ2 H2 h=>?_)
 .obtain⟨rfl,⟨y0,rfl⟩,sm,hd2⟩:=h;rw [a0] at ex;obtain⟨z,ez,rfl⟩:=b0.mp ex;have li:=(bw.mp ez).1;obtain⟨n,en⟩:=nj.mp (ha z (cC ez));have hg:cg H2 d (.str z) (some (.int n)):=by
   have:=cg.r (k:=88) (g9.Rd.same hd sm);rw [hv,en] at this;exact this
  refine goN (vq ?_);refine⟨_,rfl,_,rfl,d,_,rfl,hg,hd2,bB (by rw [au,au,dJ];omega),?_,⟨_,rfl⟩,?_,ae⟩
  .rw [cO,ez,bj,bj];show _=_++[V.int ((g z).getD 0)];rw [en];rfl
  intro b o hb;rw [203];exact sm b o hb
 obtain⟨rfl,_,sm,hd2⟩:=h;rw [au,cw] at hd2;exact q H2 sm hd2
end L2
namespace g9
open PySem L2 M11
section
def rW (K:bp):Sp:=λvs H Q _=>∃(d r:Addr)(kvs:87)(g:G)(ru:ax),vs=[.ref d,.ref r]/\Rd H d (.dK kvs)/\(∀z,aZ kvs 139=(g z).map V.int)/\Du K H r ru/\ru.2.length<=8/\(∀z∈ru.2,(g z).isSome=true)/\∀H',aD H H'->Q (.int (aM g ru)) H'
def AI:aK ["sizes","rule"] ["sizes","rule"] (ay oZ):=152
def yN (F:ir K "rule_size" "rule_size" oZ f fd)(T:Txt mg):bR P w K mg base fK 1 f fd ["sizes","rule"] (rW K):=by
 refine F.ok AI 157 161
 .obtain⟨d,r,kvs,g,ru,rfl,_⟩:=h;rfl
 obtain⟨d,r,kvs,g,ru,rfl,hd,hv,⟨p,v1,v2⟩,h8,al,q⟩:=h;have hu:=fY hr;refine⟨_,ao (br (aQ dw av (aP (lJ rfl) rfl T.sum wy (ab (aV ["part"] [(0,"sizes")] rfl (eV (ba bE (pv 1) av 137)) (aS rfl rfl) nofun rfl nofun
   (λ_ _ _ _ _=>aq (i:=0) (show (["part","sizes"]:z0t).Nodup by decide +kernel) rfl 84) 177 (λ_ _ _ _ _=>fI hu (pv 1) (pv 0) 137)) ak)))),?_⟩
 dsimp only [zC];refine⟨_,rfl,r,_,_,_,rfl,rfl,v1,rfl,p,rfl,⟨_,v2⟩,λD hD=>B6 (g:=g) rfl v2 ∅ hd hv al hD λH2 s2 e2=>?_⟩;refine⟨D,_,rfl,aI.of e2,_,_,rfl,rfl,?_⟩;exact q H2 s2
end
end g9
namespace M11
open PySem
def uc.at_ {aa:83}{aL:z0h}(h:uc aa aL):∀(i:Nat)(x:Str) (k:Nat),aL[i]?=some (x,k)->∃cZ,aa[k]?=some (x,cZ)/\∀p∈cZ,p∈(aL.take i).map 82:=by
 induction h with
 | nil=>intro i x k e;simp at e
 | @snoc aL k2 ru h e n p ih =>
  intro i x k ei;by_cases hi:i < aL.length
  .rw [nq hi] at ei;obtain⟨cZ,a,b⟩:=ih i x k ei;exact⟨cZ,a,λq hq=>by rw [qY (lL hi)];exact b q hq⟩
  have li:=(bw.mp ei).1;rw [a8,fO] at li;have e2:i=aL.length:=by omega
  subst e2;rw [lR (aG _),oG] at ei;cases ei;exact⟨ru.2,e,λq hq=>by rw [List.take_left'];exact p q hq;rfl⟩
end M11
namespace g9
open PySem L2 M11
section
def tO {H:Hp}{p D d:Addr}{zs:z0t}{kvs:87}{σ:St}{js:z0j}{Qp:Hp->Prop}(hσ:dO ["part"] js σ=[none,aE d])(hp:aY K H p (148))(hz:zs.length<=1000)
  (hd:H d=162)(ha:∀z∈zs,(88:aN)∈kvs.map 82)(hD:H D=none)(q:∀ys H2,ys.length=zs.length->aD H H2->H2 D=some (.lst ys)->Qp H2) :
  ∃W:183,(∃m,W 0 m [] (dO ["part"] js σ) 179) /\
 ∀i m ys σ' H,W i m ys σ' H->((oy K p).stop i H/\Qp H)\/((oy K p).go i H/\∃m',m' < m/\∀x H',(oy K p).lS i H x H'->dD 0 x σ' H' λσ2 H2=>hV σ2 H2 λb H3 =>
  if b=true then Cp (gK 1) (gK 0) σ2 H3 182 else W (i+1) m' ys σ2 H3):=by
 refine gI (xs:=148) (λi ys σ2 H2=>ys.length=i/\(∃y0,σ2=[y0,aE d])/\aD H H2/\H2 D=some (.lst ys))
  ⟨rfl,⟨none,hσ⟩,af hD _,ae⟩ (λi ys σ2 H2 _ h=>h.2.2.1.tup hp) (λi x ys σ2 H2 ex h=>?_) (λys σ2 H2 h=>?_)
 .obtain⟨rfl,⟨y0,rfl⟩,sm,hd2⟩:=h;rw [a0] at ex;obtain⟨z,ez,rfl⟩:=b0.mp ex;have li:=(bw.mp ez).1;obtain⟨v,ev⟩:=nj.mp ((eQ kvs 139).mpr (ha z (cC ez)));have hg:cg H2 d (.str z) (some v):=by
   have:=cg.k (k:=88) (sm _ _ hd);rw [ev] at this;exact this
  refine goN (vq ?_);refine⟨_,rfl,_,rfl,d,_,rfl,hg,hd2,bB ∅,by rw [a8];rfl,⟨_,rfl⟩,?_,ae⟩;intro b o hb;rw [203];exact sm b o hb
 obtain⟨e,_,sm,hd2⟩:=h;rw [au] at e;exact q ys H2 e sm hd2
def u5 (K:bp):Sp:=λvs H Q _=>∃(R D:Addr)(rs ts:z0q)(aa:83)(aL:z0h),vs=[.ref R,.ref D]/\aI K H R 146/\bK K H rs aa/\aa.length<=1000/\198/\aI K H D (ts.map V.ref)/\oz K H ts aL/\uc aa aL/\aL.length<=1000 /\
 ∀(d:Addr)(kvs:87)(H':Hp),H d=none->aD H H'->H' d=162->kvs.map 82=(aL.map 82).map Sum.inr->Q (.ref d) H'
def lD:aK ["rules","empties","trees","name","number"] ["rules","empties"] (ay so):=152
def Bi (F:ir K "empty_by_name" "empty_by_name" so f fd)(T:Txt mg):bR P w K mg base fK 1 f fd ["rules","empties"] (u5 K):=by
 refine F.ok lD 157 161
 .obtain⟨R,D,rs,ts,aa,aL,rfl,_⟩:=h;rfl
 obtain⟨R,D,rs,ts,aa,aL,rfl,hR,cI,bN,h8,hD,Vs,SO,SS,q⟩:=h;have hu:=fY hr;refine⟨_,ai (az (i:=2) lD.nd rfl (Or.inr rfl) fR)
  (ai (bJ bV rfl (aR (pv 1)) (dF (n:=2) K rfl (aB (aq (i:=3) lD.nd rfl 84) (aB (aq (i:=4) lD.nd rfl 84) bH)))
   (ao (fC hu (pv 2) (pv 3) (bW (ab (pv 4) (ab (bL jc rfl T.tup Ak (ab (aV ["part"] [(2,"trees")] rfl (eV (ba bE (ba cU (pv 0) (pv 4) 137) av 137)) (aS rfl rfl) nofun rfl nofun
    (λ_ _ _ _ _=>aq (i:=0) (show (["part","trees"]:z0t).Nodup by decide +kernel) rfl 84) 177 (λ_ _ _ _ _=>fI hu (pv 1) (pv 0) 137)) ak)) ak))) rfl)))
  (ao (br (pv 2)))),?_⟩
 nofun
 refine λd Ad=>?_;have s1:=af Ad (.dK []);have e1:upd H d (.dK []) d=some (.dK []):=ae;generalize upd H d (.dK [])=H1 at s1 e1;refine goN ?_
 ac_rfl
 have lt:=bc Vs;have ll:=bc cI;have nd:=SO.nd
 let yd:t_:=λi σ H3=>∃(kvs:87)(y3 y4:Option V),σ=[aE R,aE D,aE d,y3,y4]/\aD H H3/\H3 d=162/\kvs.map 82=((aL.take i).map 82).map Sum.inr
 refine⟨_,rfl,D,rfl,⟨_,s1.seq hD⟩,bP (xs:=ts.map V.ref) yd ⟨[],_,_,rfl,s1,e1,rfl⟩ ?_ ?_ ?_⟩
 .rintro i σ H3 _ ⟨kvs,y3,y4,rfl,s3,_⟩;exact s3.seq hD
 .rintro i x σ H3 ex ⟨kvs,y3,y4,rfl,s3,ed,ek⟩
  ac_nf0
  rw [a0] at ex;obtain⟨t,et,rfl⟩:=b0.mp ex;have li:=(bw.mp et).1;obtain⟨e,ee⟩:∃e,aL[i]?=some e:=⟨aL[i]'∅,df ∅⟩;obtain⟨t',Tu,vt⟩:=Paired.at_ Vs i e ee;rw [et] at Tu;cases Tu;obtain⟨x,k⟩:=e;obtain⟨cZ,hk,JE⟩:=SO.at_ i x k ee;obtain⟨r,er,p,v1,v2⟩:=Paired.at_ cI k _ hk;have Ua:pK 146 (k:Int)=some (.ref r):=cK (by rw [a0,er];rfl);have hp8:cZ.length<=8:=h8 _ (cC hk);refine⟨t,_,rfl,s3.tup vt,rfl,_,_,rfl,_,_,rfl,rfl,?_⟩;refine⟨_,rfl,_,rfl,_,rfl,R,_,_,_,rfl,rfl,s3.seq hR,Ua,r,_,_,_,rfl,rfl,s3.tup v1,rfl,p,rfl,⟨_,s3.tup v2⟩,λD2 jI=>tO (zs:=cZ) rfl (s3.tup v2) ∅ ed (λz hz=>by rw [ek];exact de.mpr (JE z hz)) jI λys H4 ly s4 e4=>?_⟩;refine⟨D2,ys,rfl,.inl ⟨aI.of e4,λt2 Zk=>⟨qi,λHU O2=>?_⟩⟩⟩;have k5:=(af Zk (.tup ys)).trans (af O2 (.tup [.int (k:Int),.ref t2]));generalize upd (upd H4 t2 (.tup ys)) HU (.tup [.int (k:Int),.ref t2])=H5 at k5;have ed5:=k5 _ _ (s4 _ _ ed);have lkv:kvs.length=i:=by
   have:=congrArg List.length ek;rw [au,au,au,dJ] at this;omega
  have nx:x∉(aL.take i).map 82:=λz=>by
   obtain⟨e2,m2,q2⟩:=bY.mp z;obtain⟨j,hj⟩:=gO m2;rw [List.getElem?_take] at hj
   split at hj
   .rename_i hji
    have a1:(aL.map 82)[j]?=some x:=by rw [a0,hj];exact congrArg some q2
    have a2:(aL.map 82)[i]?=some x:=by rw [a0,ee];rfl
    have:=(List.getElem?_inj (151) nd).mp (a1.trans a2.symm);omega
   cases hj
  refine⟨_,rfl,_,rfl,d,_,rfl,.inl ⟨kvs,Sum.inr x,ed5,rfl,bB ∅,rfl⟩,?_⟩;refine⟨_,_,_,rfl,λb o hb=>?_,ae,?_⟩
  .rw [aj (λz=>by rw [z,Ad] at hb;cases hb)];exact k5 _ _ (s4 _ _ (s3 b o hb))
  rw [i0 (by rw [ek];exact λz=>nx (de.mp z)),ek,cO,ee,bj,bj];rfl
 rintro σ H3 ⟨kvs,y3,y4,rfl,s3,ed,ek⟩;rw [au,lt,cw] at ek;exact⟨_,rfl,q d kvs H3 Ad s3 ed ek⟩
end
end g9
namespace M11
open PySem
def Le (g' g:G):Prop:=∀z n,g z=some n->∃m,g' z=some m/\m<=n
def zw {g:G}{ru:ax}(f:cX bl g ru=true):k_ g ru=true/\∀n,g ru.1=some n->aM g ru < n:=by
 unfold cX at f;rw [ni] at f;refine⟨f.1,λn e=>?_⟩;have:=f.2;rw [e] at this;have:(!(some n:z0p).isSome || bl (aM g ru) n)=true:=this
 simpa [bl] using this
def le_step {g:G}{ru:ax}(f:cX bl g ru=true):Le (dN g ru.1 (aM g ru)) g:=λz n e=>by
 unfold dN;by_cases c:z=ru.1
 .rw [aw c];subst c;exact⟨_,rfl,Int.le_of_lt ((zw f).2 n e)⟩
 rw [ar c];exact⟨n,e,jY _⟩
theorem FT {g g':G}(h:Le g' g):∀ps:z0t,(∀p∈ps,(g p).isSome=true)->(∀p∈ps,(g' p).isSome=true)/\(ps.map λp=>(g' p).getD 0).sum<=(ps.map λp=>(g p).getD 0).sum
 | [],_=>⟨λp hp=>(by cases hp),jY _⟩
 | p::r,a=>by
  obtain⟨h1,h2⟩:=FT h r λq hq=>a q (cS _ hq);obtain⟨n,en⟩:=nj.mp (a p cR);obtain⟨m,em,lm⟩:=h p n en;refine⟨λq hq=>?_,?_⟩
  .rcases b8.mp hq with rfl | hq
   .rw [em];rfl
   exact h1 q hq
  rw [cD,cD,lO,lO,en,em];show m+_<=n+_;omega
def vV {g:G}{ru:ax}:k_ g ru=true↔∀p∈ru.2,(g p).isSome=true:=by
 unfold k_;rw [eG]
def size_le {g g':G}{ru:ax}(h:Le g' g)(a:k_ g ru=true):k_ g' ru=true/\aM g' ru<=aM g ru:=by
 obtain⟨h1,h2⟩:=FT h ru.2 (vV.mp a);exact⟨vV.mpr h1,by unfold aM;omega⟩
def QB (aa:83) (hs:z0t)(g:G):Prop:=∀h n,g h=some n->h∉hs\/∃ru∈aa,ru.1=h/\k_ g ru=true/\aM g ru<=n
def FC {aa:83}{hs:z0t}(g:G)(ru:ax)(j:QB aa hs g)(m:ru∈aa)(f:cX bl g ru=true):QB aa hs (dN g ru.1 (aM g ru)):=λh n e=>by
 have le:=le_step f;by_cases c:h=ru.1
 .have e2:n=aM g ru:=by
   unfold dN at e;rw [aw c] at e;exact(hJ e).symm
  obtain⟨a1,a2⟩:=size_le le (zw f).1;exact .inr ⟨ru,m,c.symm,a1,∅⟩
 have e2:g h=some n:=by
  unfold dN at e;rw [ar c] at e;exact e
 rcases j h n e2 with h1 | ⟨P4,m2,q2,a2,l2⟩
 .exact .inl h1
 obtain⟨b1,b2⟩:=size_le le a2;exact .inr ⟨P4,m2,q2,b1,∅⟩
def Er {aa:83}{hs:z0t}{g0 g:G}(j0:QB aa hs g0)(st:dY bl aa g0 g)(se:iC bl aa g){h:Str}{n:Int}(hh:h∈hs)(e:g h=some n):∃ru∈aa,ru.1=h/\k_ g ru=true/\aM g ru=n:=by
 have j:QB aa hs g:=dY.keep (J:=QB aa hs) (λg ru j m f=>FC g ru j m f) st j0;rcases j h n e with z | ⟨ru,m,q,a,l⟩
 .exact absurd hh z
 refine⟨ru,m,q,a,?_⟩;have f:=se ru m;unfold cX at f;rw [a,q,e] at f;have f:(true && (!(some n:z0p).isSome || bl (aM g ru) n))=false:=f
 have f2:¬aM g ru < n:=by simpa [bl] using f
 omega
theorem CS {g:G}(nn:NN g):∀(ps:z0t)(p:Str) (m:Int),p∈ps->g p=some m->m<=(ps.map λp=>(g p).getD 0).sum
 | q::r,p,m,hp,e=>by
  rw [cD,lO];have h1:=jL g nn r;rcases b8.mp hp with rfl | hp
  .rw [e];show m<=m+_;omega
  have h2:=CS nn r p m hp e;have h3:0<=(g q).getD 0:=by
   cases eq:g q with
   | none=>exact jY _
   | some n=>exact nn q n eq
  omega
def DU {g:G}(nn:NN g){ru:ax}{p:Str}{m:Int}(hp:p∈ru.2)(e:g p=some m):m < aM g ru:=by
 have:=CS nn ru.2 p m hp e;unfold aM;omega
theorem Ci:∀(bf ps bX:z0t),(∀z∈bX,z∉bf)->∀z∈uh bf bX ps,z∉bf
 | _,[],bX,h=>h
 | bf,p::r,bX,h=>by
  show ∀z∈uh bf (addW bf bX p) r,z∉bf;refine Ci bf r _ ?_;unfold addW
  split
  .exact h
  rename_i hp
  unfold gM
  split
  .exact h
  intro z hz;rcases bO.mp hz with hz | hz
  .exact h z hz
  rw [bA.mp hz];exact hp
def wW {g:Str->Int}{zs:z0t}(h:zs.Pairwise λx y=>g x<=g y){i:Nat}{x p:Str}(e:zs[i]?=some x)(hp:p∈zs)(l:g p < g x):p∈zs.take i:=by
 obtain⟨j,ej⟩:=gO hp;obtain⟨li,ei⟩:=bw.mp e;obtain⟨lj,ej2⟩:=bw.mp ej;have hji:j < i:=by
  rcases Nat.lt_trichotomy j i with h1 | h1 | h1
  .exact h1
  .subst h1;rw [e] at ej;cases ej;omega
  have:=List.pairwise_iff_getElem.mp h i j li lj h1;rw [ei,ej2] at this;omega
 rw [List.mem_iff_getElem?];exact⟨j,by rw [List.getElem?_take,aw hji];exact ej⟩
end M11
namespace g9
open PySem L2 M11
def Wq (aa:83):QB aa (hd aa) (zr aa):=λh n e=>by
 unfold zr at e;by_cases c:h∈uh (hd aa) [] (aa.flatMap (·.2))
 .exact .inl (Ci _ _ [] (λz hz=>by cases hz) h c)
 rw [ar c] at e;cases e
def nn0 (aa:83):NN (zr aa):=λh n e=>by
 unfold zr at e;by_cases c:h∈uh (hd aa) [] (aa.flatMap (·.2))
 .rw [aw c] at e;cases e;exact jY _
 rw [ar c] at e;cases e
def Od {aa:83}{g:G}(st:dY M11.bl aa (zr aa) g):NN g:=dY.keep (J:=NN) (λg ru j m f=>xx j ru) st (nn0 aa)
theorem wH (bf:z0t):∀(ps bX:z0t)(x:Str),(x∈bX\/(x∈ps/\x∉bf))->x∈uh bf bX ps
 | [],bX,x,h=>by
  rcases h with h | ⟨h,_⟩
  .exact h
  cases h
 | p::r,bX,x,h=>by
  show x∈uh bf (addW bf bX p) r;apply wH bf r;unfold addW;by_cases c:p∈bf
  .rw [aw c];rcases h with h | ⟨h,n⟩
   .exact .inl h
   rcases b8.mp h with z | z
   .exact absurd (z ▸ c) n
   exact .inr ⟨z,n⟩
  rw [ar c];rcases h with h | ⟨h,n⟩
  .exact .inl ((jF _ _ _).mpr (.inl h))
  rcases b8.mp h with z | z
  .exact .inl ((jF _ _ _).mpr (.inr z))
  exact .inr ⟨z,n⟩
def Rx:List Stmt->Pos
 | [_,_,_,.For _ (.Call _ _ [⟨_,.Lambda _ _ _ pos,_⟩] _) _ _ _,_]=>pos
 | _=>⟨0,0,0,0⟩
abbrev posB:Pos:=Rx (cJ nU)
abbrev Jy:Str := "least_by_part" ++ ".<locals>." ++ "<lambda>"
section
def oX (K:bp)(T1 T3:Addr):Sp:=λvs H Q _=>∃(R:Addr)(rs:z0q)(aa:83),vs=[.ref R]/\aI K H R 146/\bK K H rs aa/\aa.length < 64/\198/\(∀g,dY M11.bl aa (zr aa) g->iC M11.bl aa g->∀h∈hd aa,∃n,g h=some n/\n<=60)/\Tab T1 sR.2.2.2 z_ H/\Tab T3 posB Jy H/\T1≠T3 /\
 ∀(d:Addr)(kvs:87)(H':Hp),H d=none->mh T1 T3 H H'->Tab T1 sR.2.2.2 z_ H'->Tab T3 posB Jy H'->H' d=162->(∀z,z∈hd aa->(88:aN)∈kvs.map 82)->Q (.ref d) H'
structure LB (K:bp)(rs:z0q)(aa:83)(qJ:87)(ps:z0f)(R dz dn T1 T3:Addr)(H5:Hp):Prop where
 hR:aI K H5 R 146
 cI:bK K H5 rs aa
 nm:JS ps (λn=>nums aa n aa.length) H5 dn
 rz:Rd H5 dz (.dK qJ)
 t1:Tab T1 sR.2.2.2 z_ H5
 t3:Tab T3 posB Jy H5
theorem LB.same {rs:z0q}{aa:83}{qJ:87}{ps:z0f}{R dz dn T1 T3:Addr}{H5 H6:Hp}(h:LB K rs aa qJ ps R dz dn T1 T3 H5)(s:aD H5 H6):LB K rs aa qJ ps R dz dn T1 T3 H6 :=
 ⟨s.seq h.hR,h.cI.same s,h.nm.same s,g9.Rd.same h.rz s,h.t1.same s,h.t3.same s⟩
def LB.Mz {rs:z0q}{aa:83}{qJ:87}{ps:z0f}{R dz dn T1 T3 d:Addr}{H5 H6:Hp}{kv:87}(h:LB K rs aa qJ ps R dz dn T1 T3 H5)(e:H5 d=some (.dK kv))(n1:dn≠d)(n2:dz≠d)(s:gB d H5 H6):LB K rs aa qJ ps R dz dn T1 T3 H6:=by
 have tk:∀a xs,aY K H5 a xs->aY K H6 a xs:=λa xs z=>by
  rcases z with (z | ⟨u,z⟩) | z
  .exact .inl (.inl (s _ _ (λy=>by rw [y,e] at z;cases z) z))
  .exact .inl (.inr ⟨u,s _ _ (λy=>by rw [y,e] at z;cases z) z⟩)
  exact .inr z
 have tb:∀{T':Addr}{pos':Pos}{Jx:Str},Tab T' pos' Jx H5->Tab T' pos' Jx H6:=λ{T' pos' Jx} ⟨p,a,b,cc⟩=>⟨p,s _ _ (λy=>by rw [y,e] at a;cases a) a,b,cc.imp id λ⟨c',e1,e2⟩=>⟨c',e1,s _ _ (λy=>by rw [y,e] at e2;cases e2) e2⟩⟩;refine⟨?_,h.cI.keep tk,⟨s _ _ n1 h.nm.hd,h.nm.n1,h.nm.n2,λp hp=>s _ _ (λy=>by have a:=h.nm.lst p hp;rw [y,e] at a;cases a) (h.nm.lst p hp)⟩,?_,tb h.t1,tb h.t3⟩
 .rcases h.hR with (z | ⟨u,z⟩) | z
  .exact .inl (.inl (s _ _ (λy=>by rw [y,e] at z;cases z) z))
  .exact .inl (.inr ⟨u,s _ _ (λy=>by rw [y,e] at z;cases z) z⟩)
  exact .inr z
 rcases h.rz with z | ⟨u,z⟩
 .exact .inl (s _ _ n2 z)
 exact .inr ⟨u,s _ _ n2 z⟩
def LB.Rc {rs:z0q}{aa:83}{qJ:87}{ps:z0f}{R dz dn T1 T3:Addr}{H5 H6:Hp}(h:LB K rs aa qJ ps R dz dn T1 T3 H5)(nT:T1≠T3)(s:gB T3 H5 H6)(t:Tab T3 posB Jy H6):LB K rs aa qJ ps R dz dn T1 T3 H6:=by
 obtain⟨pt,eT,_⟩:=id h.t3;refine⟨CK s h.t3 h.hR,h.cI.keep λ_ _ z=>Ck s h.t3 z,⟨s _ _ (λy=>by have a:=h.nm.hd;rw [y,eT] at a;cases a) h.nm.hd,h.nm.n1,h.nm.n2,λp hp=>s _ _ (λy=>by have a:=h.nm.lst p hp;rw [y,eT] at a;cases a) (h.nm.lst p hp)⟩,?_,Cn s h.t3 h.t1 nT,t⟩;rcases h.rz with z | ⟨u,z⟩
 .exact .inl (s _ _ (λy=>by rw [y,eT] at z;cases z) z)
 exact .inr ⟨u,s _ _ (λy=>by rw [y,eT] at z;cases z) z⟩
theorem pD:∀(hs:z0t)(bX:87) (as:z0t),bX.map 82=as.map Sum.inr->(di (hs.map λh=>((Sum.inr h:aN),V.str h)) bX).map 82=(M11.xS as hs).map Sum.inr
 | [],bX,as,e=>e
 | h::r,bX,as,e=>pD r (bQ bX (Sum.inr h) (.str h)) (M11.gM as h) (g9.iR e h)
def iE:aK ["rules","numbers","trees","name","least","sizes"] ["rules"] (ay nU):=152
def Bg {T1 T3:Addr}(F:zX K "least_by_part" "least_by_part" nU f fd T3)(T:Txt mg)(hB:uf mg base)(hS:mg "sorted"=none)(GH:aF P w K mg base 3 "heads_of" ["rules"] (lB K))(GL:aF P w K mg base 3 "least_sizes" ["rules"] (qA K T1))(GN:aF P w K mg base 3 "numbers_by_name" ["rules"] (AE K))(GZ:aF P w K mg base 3 "rule_size" ["sizes","rule"] (rW K)):bR P w K mg base fK 4 f fd ["rules"] (oX K T1 T3):=by
 refine F.ok iE 157 (λc A outer s H vs Q E hC hr h=>?_)
 .obtain⟨R,rs,aa,rfl,_⟩:=h;rfl
 obtain⟨R,rs,aa,rfl,hR,cI,bN,h8,Ir,Lq,Y4,nT,q⟩:=h;have hu:=fY hr;refine⟨_,ai (az (i:=5) iE.nd rfl (Or.inr rfl) (bu GL hr rfl (ab (pv 0) ak)))
  (ai (az (i:=1) iE.nd rfl (Or.inr rfl) (bu GN hr rfl (ab (pv 0) ak)))
  (ai (az (i:=2) iE.nd rfl (Or.inr rfl) (bL (eZ rfl) rfl T.Dk gA (ab (aV ["part"] [(1,"numbers")] rfl (CQ (pv 5)) (aS rfl rfl) nofun rfl nofun
    (λ_ _ _ _ _=>aq (i:=0) (show (["part","numbers"]:z0t).Nodup by decide +kernel) rfl 84) (λ_ _ _ _ _=>gb (fw (dC hu (pv 0) (pv 1)))) (λ_ _ _ _ _=>bW (ab (pv 0) (ab (pv 0) ak)))) ak)))
  (ai (bJ bV rfl (aR (G4 (i:=5) (T:=T3) hr rfl hC hB rfl hS (ab (bu GH hr rfl (ab (pv 0) ak)) ak) rfl rfl (λy hy=>by
    rcases b8.mp hy with h | h
    .cases h
    rcases b8.mp h with h | h
    .cases h;rfl
    cases h) (λq cl pm gL c' us hl=>match us,hl with | [_],_=>rfl) rfl rfl rfl nofun rfl rfl)) (aq (i:=3) iE.nd rfl (Or.inr rfl))
   (ai (gT (iy:=4) ["number"] [(5,"sizes"),(0,"rules"),(3,"name")] iE.nd rfl rfl rfl (aR (fI hu (pv 1) (pv 3) 137)) (aS rfl rfl) nofun rfl nofun
    (λ_ _ _ _ _=>aq (i:=0) (show (["number","sizes","rules","name"]:z0t).Nodup by decide +kernel) rfl 84) (λ_ _ _ _ _=>gb (a_ kR (bu GZ hr rfl (ab (pv 1) (ab (ba (yZ K) (pv 2) (pv 0) 137) ak))) (fI hu (pv 1) (pv 3) 137) (cx _))) (λ_ _ _ _ _=>pv 0))
   (ao (fC hu (pv 2) (pv 3) (bW (ab (ba cU (pv 4) av 137) (ab (bL jc rfl T.tup Ak (ab (aV ["part"] [(2,"trees")] rfl (eV (ba bE (ba cU (pv 0) (ba cU (pv 4) av 137) 137) av 137)) (aS rfl rfl) nofun rfl nofun
    (λ_ _ _ _ _=>aq (i:=0) (show (["part","trees"]:z0t).Nodup by decide +kernel) rfl 84) 177 (λ_ _ _ _ _=>fI hu (pv 1) (pv 0) 137)) ak)) ak))) rfl))))
  (ao (br (pv 2)))))),?_⟩
 nofun
 refine⟨_,rfl,R,rs,aa,rfl,hR,cI,∅,h8,Lq,λdz qJ Mw g H1 fz s1 t1 ez kz vz UN sez lz=>?_⟩;refine goN ?_
 ac_rfl
 have hR1:=CK s1 Lq hR;have Su:=cI.keep λ_ _ z=>Ck s1 Lq z;have t31:=Cn s1 Lq Y4 (d8 nT);refine⟨_,rfl,R,rs,aa,rfl,hR1,Su,∅,λdn ps H2 fn s2 nm pk pf=>?_⟩;refine goN ?_
 ac_rfl
 have MT:=s2 _ _ ez;refine⟨_,rfl,dz,qJ,rfl,MT,λo D hD=>?_⟩;have P6:∀p∈ps,p.2≠dz:=λp hp z=>by
  have a:=nm.lst p hp;rw [z,MT] at a;cases a
 have ndz:dn≠dz:=λz=>by rw [z,ez] at fn;cases fn
 have nz1:T1≠dz:=λz=>by
  obtain⟨p,a,_⟩:=t1;rw [z,ez] at a;cases a
 have nz3:T3≠dz:=λz=>by
  obtain⟨p,a,_⟩:=t31;rw [z,ez] at a;cases a
 have QQ:∀{T':Addr}{pos':Pos}{Jx:Str},T'≠dz->Tab T' pos' Jx H2->Tab T' pos' Jx (upd H2 dz (.md o (.dK qJ))):=λ{T' pos' Jx} n ⟨p,a,b,cc⟩=>⟨p,by rw [aj n];exact a,b,cc.imp id λ⟨c',e1,e2⟩=>⟨c',e1,by rw [aj (λz=>by rw [z,MT] at e2;cases e2)];exact e2⟩⟩;have L3:LB K rs aa qJ ps R dz dn T1 T3 (upd H2 dz (.md o (.dK qJ))):=by
  refine⟨?_,(Su.same s2).keep λ_ _ z=>ij MT z,⟨by rw [aj ndz];exact nm.hd,nm.n1,nm.n2,λp hp=>by rw [aj (P6 p hp)];exact nm.lst p hp⟩,.inr ⟨o,ae⟩,QQ nz1 (t1.same s2),QQ nz3 (t31.same s2)⟩;rcases s2.seq hR1 with (h | ⟨u,h⟩) | h
  .exact .inl (.inl (by rw [aj (λz=>by rw [z,MT] at h;cases h)];exact h))
  .exact .inl (.inr ⟨u,by rw [aj (λz=>by rw [z,MT] at h;cases h)];exact h⟩)
  exact .inr h
 have e3:upd H2 dz (.md o (.dK qJ)) dz=some (.md o (.dK qJ)):=ae;have DN:mh T1 T3 H (upd H2 dz (.md o (.dK qJ))):=λb u n1 n3 hb=>by
  rw [aj (λz=>by rw [z,fz] at hb;cases hb)];exact s2 _ _ (s1 b u n1 hb)
 generalize upd H2 dz (.md o (.dK qJ))=H3 at hD L3 e3 DN ⊢;have lkz:qJ.length=Mw.length:=by
  have:=congrArg List.length kz;rwa [au,au] at this
 refine tS (λi ys σ2 H4=>∃ts:z0q,ys=ts.map V.ref/\(∃y0,σ2=[y0,aE dn])/\aD H3 H4/\H4 D=some (.lst ys)/\ts.length<=i/\Paired (λt h=>aY K H4 t [.str h,.str h]) ts ((Mw.take i).filter λz=>!decide (z∈hd aa)))
  ⟨[],rfl,⟨none,rfl⟩,af hD _,ae,aG _,.nil⟩ (λi ys σ2 H4 _ h=>?_) (λi kv ys σ2 H4 ex h=>?_) (λys σ2 H4 h=>?_)
 .obtain⟨_,_,_,sm,_⟩:=h;exact sm _ _ e3
 .obtain⟨ts,rfl,⟨y0,rfl⟩,sm,e4,XO,pt⟩:=h;obtain⟨z,ezz,ekz⟩:∃z,Mw[i]?=some z/\kv.1=88:=by
   have a1:(qJ.map 82)[i]?=some kv.1:=by rw [a0,ex];rfl
   rw [kz,a0] at a1;obtain⟨z,a2,a3⟩:=b0.mp a1;exact⟨z,a2,a3.symm⟩
  rw [ekz];have L4:=L3.same sm;have qp:(aZ (ps.map jw) 139).isSome=decide (z∈hd aa):=by
   rw [jf,eQ,decide_eq_true_iff,<-pk];rw [fc];constructor
   .intro h;obtain⟨p,hp,e⟩:=bY.mp h;exact bY.mpr ⟨p,hp,kn e⟩
   intro h;obtain⟨p,hp,e⟩:=bY.mp h;exact bY.mpr ⟨p,hp,congrArg Sum.inr e⟩
  refine goN ?_;refine⟨_,rfl,_,rfl,dn,_,rfl,cg.k (k:=88) L4.nm.hd,_,rfl,?_⟩;rw [qp];have Ts:((Mw.take (i+1)).filter λz=>!decide (z∈hd aa))=((Mw.take i).filter λz=>!decide (z∈hd aa))++(if (!decide (z∈hd aa))=true then [z] else []):=by
   rw [cO,ezz,pQ]
   congr 1
   by_cases c:z∈hd aa <;> simp [c]
  refine cf (λcc=>?_) (λcc=>?_)
  .refine⟨_,rfl,_,rfl,qi,λt ht=>?_⟩;have k5:=af ht (.tup [kV 139,kV 139]);have v5:aY K (upd H4 t (.tup [kV 139,kV 139])) t [.str z,.str z]:=aY.of ae;generalize upd H4 t (.tup [kV 139,kV 139])=H5 at k5 v5;have li:=(bw.mp ex).1;have e5:=k5 _ _ e4;refine⟨e5,176,ts++[t],by rw [bj];rfl,⟨_,rfl⟩,λb u hb=>?_,ae,by rw [a8,fO];omega,?_⟩
   .rw [203];exact k5 _ _ (sm b u hb)
   rw [Ts,aw cc];exact gk (Paired.b_ pt λ_ _ z=>bz e5 (k5.tup z)) (bz e5 v5)
  refine⟨ts,rfl,⟨_,rfl⟩,sm,e4,∅,?_⟩;rw [Ts,ar cc,d_];exact pt
 obtain⟨ts,rfl,_,s4,e4,XO,pt⟩:=h;rw [lkz,cw] at pt;have hwk:∀z,z∉hd aa->(g z).isSome=true->z∈Mw.filter λz=>!decide (z∈hd aa):=λz hz gz=>by
  refine gF.mpr ⟨?_,by simpa using hz⟩;have a1:(aZ qJ 139).isSome=true:=by rw [vz,qU];exact gz
  rw [eQ,kz] at a1;exact de.mp a1
 have lws:(Mw.filter λz=>!decide (z∈hd aa)).length<=20000:=gr (jk _ _) ∅;generalize Mw.filter (λz=>!decide (z∈hd aa))=ws at pt hwk lws;have kp:Paired (λt (kv:aN×V)=>aY K H4 t [kV kv.1,kv.2]) ts (ws.map λh=>((Sum.inr h:aN),V.str h)):=cY pt λ_ _ z=>z;refine⟨D,ts,_,rfl,e4,kp,λdt uC=>?_⟩;have kt:∀z∈ws,(88:aN)∈(di (ws.map λh=>((Sum.inr h:aN),V.str h)) []).map 82:=λz hz=>by
  rw [pD ws [] [] rfl];exact de.mpr ((ig ws [] z).mpr (.inr hz))
 have lkt:(di (ws.map λh=>((Sum.inr h:aN),V.str h)) []).length<=20000:=by
  have a:=congrArg List.length (pD ws [] [] rfl);rw [au,au] at a;have:=i5 ws [];simp only [j_] at this;omega
 generalize di (ws.map λh=>((Sum.inr h:aN),V.str h)) []=RY at kt lkt;have s5:=s4.trans (af uC (.dK RY));have e5:upd H4 dt (.dK RY) dt=some (.dK RY):=ae;have MQ:H3 dt=none:=s4.free uC;generalize upd H4 dt (.dK RY)=H5 at s5 e5;have L5:=L3.same s5;refine goN ?_
 ac_rfl
 refine⟨_,rfl,R,rs,aa,rfl,L5.hR,L5.cI,∅,λDH H6 fH s6 eH=>?_⟩;have L6:=L5.same s6;have Om:=i5 (aa.map 82) [];simp only [j_,au] at Om;have gz:∀z∈hd aa,∃n,g z=some n:=λz hz=>by
  obtain⟨n,e,_⟩:=Ir g UN sez z hz;exact⟨n,e⟩
 refine⟨L6.t3,DH,hd aa,dz,qJ,λz=>(g z).getD 0,rfl,aI.of eH,by unfold hd;omega,rfl,L6.rz,λz hz=>by obtain⟨n,e⟩:=gz z hz;rw [vz,e];show _=some (V.int ((g z).getD 0));rw [e];rfl,λl ug H7 s7 t37 fl pe pw el=>?_⟩;have L7:=L6.Rc nT s7 t37;have Xw:dt≠T3:=λz=>by
  obtain⟨p,a,_⟩:=L5.t3;rw [<-z,e5] at a;cases a
 have e7:=s7 _ _ Xw (s6 _ _ e5);have ndn:dn≠dt:=λz=>by have a:=L3.nm.hd;rw [z,MQ] at a;cases a
 have nzt:dz≠dt:=λz=>by rw [<-z,e3] at MQ;cases MQ
 have NO:mh T1 T3 H H7:=λb u n1 n3 hb=>s7 _ _ n3 (s6 _ _ (s5 _ _ (DN b u n1 n3 hb)));have Xr:l≠dt:=λz=>by rw [z,s6 _ _ e5] at fl;cases fl
 have nn:=Od UN;have hlz:ug.length < 64:=by rw [pe.length_eq];unfold hd;omega
 have Ud:∀ru∈aa,∀p∈ru.2,(g p).isSome=true:=λru iq p hp=>by
  by_cases hh:p∈hd aa
  .obtain⟨n,e⟩:=gz p hh;rw [e];rfl
  have j0:∃n,zr aa p=some n:=⟨0,aw (wH _ _ [] p (.inr ⟨jh.mpr ⟨ru,iq,hp⟩,hh⟩))⟩;have:∃n,g p=some n:=dY.keep (J:=λg=>∃n,g p=some n) (λg ru ⟨n,e⟩ m f=>by obtain⟨k,a,_⟩:=le_step f p n e;exact⟨k,a⟩) UN j0;obtain⟨n,e⟩:=this;rw [e];rfl
 have ll:=bc cI
 let yd:t_:=λi σ H8=>∃(kvs:87)(y3 y4:Option V),σ=[aE R,aE dn,aE dt,y3,y4,aE dz]/\gB dt H7 H8/\H8 dt=162/\kvs.length<=20000+i/\(∀z∈ws,(88:aN)∈kvs.map 82)/\(∀z∈ug.take i,(88:aN)∈kvs.map 82)
 refine⟨l,rfl,⟨_,aI.of el⟩,bP (xs:=ug.map V.str) yd ⟨RY,_,_,rfl,λ_ _ _ h=>h,e7,∅,kt,λz hz=>by cases hz⟩ ?_ ?_ ?_⟩
 .rintro i σ H8 _ ⟨kvs,y3,y4,rfl,s8,_⟩;exact aI.of (s8 _ _ Xr el)
 .rintro i x σ H8 ex ⟨kvs,y3,y4,rfl,s8,e8,P8,X3,RX⟩
  ac_nf0
  rw [a0] at ex;obtain⟨z,VC,rfl⟩:=b0.mp ex;have li:=(bw.mp VC).1;have hz:z∈hd aa:=pe.mem_iff.mp (cC VC);obtain⟨n,ZA⟩:=gz z hz;have L8:=L7.Mz e7 ndn nzt s8;obtain⟨p,hp,Yw⟩:=bY.mp (show z∈ps.map 82 by rw [pk];exact hz);refine goN ?_
  ac_rfl
  have hgn:cg H8 dn (.str z) (some (.ref p.2)):=by
   have:=cg.k (k:=88) L8.nm.hd;rw [<-Yw,gP ps L8.nm.n1 p hp] at this;rw [Yw] at this;exact this
  have Vl:=L8.nm.lst p hp;have Vl:H8 p.2=some (.lst ((nums aa z aa.length).map V.int)):=by rw [<-Yw];exact Vl
  have numOf:∀(m:Nat) (v:Int),(nums aa z aa.length)[m]?=some v->∃(j:Nat)(ru:ax),v=(j:Int)/\aa[j]?=some ru/\ru.1=z:=λm v e=>by
   unfold nums at e;rw [a0] at e;obtain⟨j,e1,rfl⟩:=b0.mp e;have hj:=(gF.mp (cC e1)).2;have hj:(aa[j]?.map 82)=some z:=cW hj;obtain⟨ru,e2,e3⟩:=b0.mp hj;exact⟨j,ru,rfl,e2,e3⟩
  have aav:=yO aa z aa.length
  let good:Int->Bool:=λv=>match aa[v.toNat]? with | some ru=>decide (aM g ru=n) | none=>false
  have wit:∃v∈nums aa z aa.length,good v=true:=by
   obtain⟨ru,iq,q1,_,q3⟩:=Er (Wq aa) UN sez hz ZA;obtain⟨j,ej⟩:=gO iq;have lj:=(bw.mp ej).1;refine⟨(j:Int),bY.mpr ⟨j,gF.mpr ⟨j4.mpr lj,cE (by rw [ej];exact congrArg some q1)⟩,rfl⟩,?_⟩;show (match aa[(j:Int).toNat]? with | some ru=>decide (aM g ru=n) | none=>false)=true
   rw [ji,ej];exact cE q3
  refine⟨_,rfl,_,rfl,dn,_,rfl,hgn,p.2,rfl,⟨_,aI.of Vl⟩,λD9 yi=>bT (xs:=(nums aa z aa.length).map V.int) (λm ys σ2 H9=>ys=(((nums aa z aa.length).take m).filter good).map V.int/\(∃y0,σ2=[y0,aE dz,aE R,some (.str z)])/\aD H8 H9/\H9 D9=some (.lst ys))
   ⟨rfl,⟨none,rfl⟩,af yi _,ae⟩ (λm ys σ2 H9 _ h=>?_) (λm x ys σ2 H9 em h=>?_) (λys σ2 H9 h=>?_)⟩
  .obtain⟨_,_,sm,_⟩:=h;exact aI.of (sm _ _ Vl)
  .obtain⟨rfl,⟨y0,rfl⟩,sm,e9⟩:=h;rw [a0] at em;obtain⟨v,ev,rfl⟩:=b0.mp em;have lm:=(bw.mp ev).1;obtain⟨j,ru,rfl,ej,VI⟩:=numOf m v ev;have L9:=L8.same sm;obtain⟨r,er,rv⟩:=Paired.at_ L9.cI j ru ej;have Ua:pK 146 (j:Int)=some (.ref r):=cK (by rw [a0,er];rfl);have gj:good (j:Int)=decide (V.int (aM g ru)=V.int n):=by
    show (match aa[(j:Int).toNat]? with | some ru=>decide (aM g ru=n) | none=>false)=_
    rw [ji,ej];show decide (aM g ru=n)=_;by_cases c:aM g ru=n
    .rw [cE c,cE (congrArg V.int c)]
    rw [fg c,fg (λy=>c (by injection y))]
   refine goN ?_;refine⟨_,rfl,_,rfl,_,rfl,R,_,_,_,rfl,rfl,L9.hR,Ua,dz,r,qJ,g,ru,rfl,L9.rz,vz,rv,h8 ru (cC ej),Ud ru (cC ej),λzW ql=>?_⟩;have hgz:cg zW dz (.str z) (some (.int n)):=by
    have:=cg.r (k:=88) (L9.same ql).rz;rw [vz,ZA] at this;exact this
   refine⟨_,rfl,_,rfl,dz,_,rfl,hgz,rfl,_,rfl,?_⟩;rw [<-gj];have Ts:((nums aa z aa.length).take (m+1)).filter good=((nums aa z aa.length).take m).filter good++(if good (j:Int)=true then [(j:Int)] else []):=by
    rw [cO,ev,pQ]
    congr 1
    show List.filter good [(j:Int)]=_;by_cases c:good (j:Int)=true
    .rw [aw c,oQ,aw c,List.filter_nil]
    rw [ar c,oQ,ar c,List.filter_nil]
   have lf:(((nums aa z aa.length).take m).filter good).length<=1000:=gr (jk _ _) (by rw [dJ];omega);refine cf (λcc=>?_) (λcc=>?_)
   .refine⟨_,rfl,ql _ _ e9,176,by rw [Ts,aw cc,bj];rfl,⟨_,rfl⟩,λb u hb=>?_,ae⟩;rw [aj (λz=>by rw [z,yi] at hb;cases hb)];exact ql _ _ (sm b u hb)
   exact⟨by rw [Ts,ar cc,d_],⟨_,rfl⟩,sm.trans ql,ql _ _ e9⟩
  obtain⟨rfl,_,s9,e9⟩:=h;rw [au,cw] at e9;refine goN ?_
  ac_rfl
  have L9:=L8.same s9;cases hf:(nums aa z aa.length).filter good with
  | nil =>
   obtain⟨v,hv,gv⟩:=wit;have:v∈(nums aa z aa.length).filter good:=gF.mpr ⟨hv,gv⟩;rw [hf] at this;cases this
  | cons v0 vr =>
   rw [hf] at e9;have hm0:v0∈(nums aa z aa.length).filter good:=by rw [hf];exact cR
   obtain⟨Qf,Vp⟩:=gF.mp hm0;obtain⟨m0,Zz⟩:=gO Qf;obtain⟨j,ru,rfl,ej,VI⟩:=numOf m0 v0 Zz;have hsz:aM g ru=n:=by
    have Vp:(match aa[(j:Int).toNat]? with | some ru=>decide (aM g ru=n) | none=>false)=true:=Vp
    rw [ji,ej] at Vp;exact cW Vp
   have iq:=cC ej;obtain⟨r,er,pp,v1,v2⟩:=Paired.at_ L9.cI j ru ej;have Ua:pK 146 (j:Int)=some (.ref r):=cK (by rw [a0,er];rfl);have uJ:pK (V.int (j:Int)::vr.map V.int) 0=some (.int (j:Int)):=cK (j:=0) rfl;have e9:H9 D9=some (.lst (V.int (j:Int)::vr.map V.int)):=e9;have e89:=s9 _ _ e8;have r8:=h8 ru iq;have X9:∀p∈ru.2,(Sum.inr p:aN)∈kvs.map 82:=λy hy=>by
    obtain⟨my,ey⟩:=nj.mp (Ud ru iq y hy);by_cases hh:y∈hd aa
    .refine RX y (wW pw VC (pe.mem_iff.mpr hh) ?_);show (g y).getD 0 < (g z).getD 0;rw [ey,ZA];show my < n;rw [<-hsz];exact DU nn hy ey
    exact X3 y (hwk y hh (by rw [ey];rfl))
   refine⟨_,rfl,D9,_,_,_,rfl,rfl,aI.of e9,uJ,_,rfl,_,rfl,D9,_,_,_,rfl,rfl,aI.of e9,uJ,R,_,_,_,rfl,rfl,L9.hR,Ua,r,_,_,_,rfl,rfl,v1,rfl,pp,rfl,⟨_,v2⟩,λD10 Zc=>tO (zs:=ru.2) rfl v2 ∅ e89 X9 Zc λys zW ly ql Ft=>?_⟩;refine⟨D10,ys,rfl,.inl ⟨aI.of Ft,λt2 Zk=>⟨qi,λHU O2=>?_⟩⟩⟩;have k11:=(af Zk (.tup ys)).trans (af O2 (.tup [.int (j:Int),.ref t2]));generalize upd (upd zW t2 (.tup ys)) HU (.tup [.int (j:Int),.ref t2])=Fb at k11;have Rj:=(s9.trans ql).trans k11;have JN:=Rj _ _ e8;refine⟨_,rfl,_,rfl,dt,_,rfl,.inl ⟨kvs,88,JN,rfl,bB ∅,rfl⟩,?_⟩;have Ic:∀y:aN,(y∈kvs.map 82\/y=88)->y∈(bQ kvs 139 (.ref HU)).map 82:=λy hy=>by
    by_cases hk:(88:aN)∈kvs.map 82
    .rw [A4 hk];rcases hy with hy | rfl
     .exact hy
     exact hk
    rw [i0 hk];rcases hy with hy | rfl
    .exact eI _ hy
    exact dM _ cR
   have aaz:(bQ kvs 139 (.ref HU)).length<=kvs.length+1:=by
    have a:=congrArg List.length (Eq.refl ((bQ kvs 139 (.ref HU)).map 82));by_cases hk:(88:aN)∈kvs.map 82
    .have b:=congrArg List.length (A4 (v:=.ref HU) hk);rw [au,au] at b;omega
    have b:=congrArg List.length (i0 (v:=.ref HU) hk);rw [au,a8,au,fO] at b;omega
   refine⟨_,_,_,rfl,λb u nb hb=>?_,ae,∅,λy hy=>Ic _ (.inl (X3 y hy)),λy hy=>?_⟩
   .rw [aj nb];exact Rj _ _ (s8 b u nb hb)
   rw [cO,VC] at hy;rcases bO.mp hy with hy | hy
   .exact Ic _ (.inl (RX y hy))
   exact Ic _ (.inr (by rw [bA.mp (show y∈[z] from hy)]))
 rintro σ H8 ⟨kvs,y3,y4,rfl,s8,e8,P8,X3,RX⟩;rw [au,cw] at RX;have L8:=L7.Mz e7 ndn nzt s8;refine⟨_,rfl,q dt kvs H8 ?_ (λb u n1 n3 hb=>?_) L8.t1 L8.t3 e8 λz hz=>RX z (pe.mem_iff.mpr hz)⟩
 .cases c:H dt with
  | none=>rfl
  | some u =>
   by_cases h1:dt=T1
   .obtain⟨pp,a,_⟩:=L3.t1;rw [<-h1,MQ] at a;cases a
   rw [DN dt u h1 Xw c] at MQ;cases MQ
 refine s8 _ _ (λz=>?_) (NO b u n1 n3 hb);rw [z] at hb;rw [DN dt u (λy=>n1 (z.trans y)) Xw hb] at MQ;cases MQ
end
end g9
namespace L2
open PySem PySem.Spec PyProof.Rows
section
variable {prog:Program}{w:World}{A:Around}{E:z0b}
def wO {h h':Heap}{ks:List aN}{a:Addr}(p:(tupleKind (aX prog w)).is h ks a)(k:∀b o,o.cls=.type "tuple" -> h.get? b=some o->h'.get? b=some o):(tupleKind (aX prog w)).is h' ks a :=
 let ⟨o,aT,n,h1,h2,h3,h4⟩:=p;⟨o,aT,n,k a o h2 h1,h2,h3,h4⟩
def xR {h h':Heap}{d:Addr}{xs:List (List aN×Addr×Value)}(hd:h.DictOfH (tupleKind (aX prog w)) d xs)(kd:∀o,h.get? d=some o->h'.get? d=some o)(k:∀b o,o.cls=.type "tuple" -> h.get? b=some o->h'.get? b=some o) :
  h'.DictOfH (tupleKind (aX prog w)) d xs :=
 let ⟨o,es,ep,q,c,dd,e,is,n⟩:=hd;⟨o,es,ep,kd o q,c,dd,e,λx hx=>wO (is x hx) k,n⟩
def lK (prog:Program)(w:World)(h:Heap)(u:Value)(kv:List aN×Addr×Value):Prop :=
 ∃t n o,u=.ref t/\(tupleKind (aX prog w)).is h kv.1 kv.2.1/\h.get? t=some o/\o.cls=.type "tuple" /\ o.data=.seq #[.ref kv.2.1,kv.2.2] n
def lK.keep {h h':Heap}{u:Value}{kv:List aN×Addr×Value}(p:lK prog w h u kv)(k:∀b o,o.cls=.type "tuple" -> h.get? b=some o->h'.get? b=some o):lK prog w h' u kv :=
 let ⟨t,n,o,a,b,c,d,e⟩:=p;⟨t,n,o,a,wO b k,k t o d c,d,e⟩
def Df (more xs:List (List aN×Addr×Value)):List (List aN×Addr×Value):=more.foldl (λa p=>storedH a p.1 p.2.1 p.2.2) xs
def LA {R:Result->Shared->Prop}{d it l:Addr}{items:z0l}(hh:A.handled=none)(hu:A.units+1 < cLine):∀(more:List (List aN×Addr×Value)) (i:Nat)(s:Shared)(kvs:List (List aN×Addr×Value)) (j:Int)(tk:Tok),items.size=i+more.length ->
  s.heap.DictOfH (tupleKind (aX prog w)) d kvs->s.heap.IsListIter it l i->s.heap.IsList l items->(∀m kv,more[m]?=some kv->∃u,items[i+m]?=some u/\lK prog w s.heap u kv)->kvs.length+more.length<=sizeLine ->
  (∀h' t',h'.DictOfH (tupleKind (aX prog w)) d (Df more kvs)->(∀b o,b≠d->b≠it->158->h'.get? b=some o)->R (.ok (.ret .none)) { s with heap:=h',toks:=t' }) ->
  codeAny 150 A (.builtin "dict.update.loop" ⟨[.ref d,.ref it,.int j tk,.none],[]⟩) R s:=by
 intro more
 induction more with
 | nil =>
  intro i s kvs j tk hi hd hit hl hp hz hR;refine q0 lI ?_;rw [rA f_ _];unfold Builtin.«dict.update.loop»;have hs:items[i]?=none:=Ag (by rw [hi];exact aG _);refine aA (wu hh hit hl hs λh1 eb=>?_);have nd:d≠it:=λz=>by
   obtain⟨o,_,_,q,_,c,_⟩:=hd;obtain⟨o',q',_,c'⟩:=hit;rw [z,q'] at q;cases q;rw [c'] at c;cases c
  have nt:∀b o,o.cls=.type "tuple" -> 158->b≠it:=λb o c q z=>by
   obtain⟨o',q',c',_⟩:=hit;rw [z,q'] at q;cases q;rw [c'] at c;exact absurd c nofun
  show wpAny _ _ (Builtin.Dict.addKeywords d [] >>= _) _ _ _;exact aA (aH (aH (hR h1 s.toks (xR hd (λo q=>eb d o nd q) λb o c q=>eb b o (nt b o c q) q) λb o n1 n2 q=>eb b o n2 q)))
 | cons kv more ih =>
  intro i s kvs j tk hi hd hit hl hp hz hR;refine q0 lI ?_;rw [rA f_ _];unfold Builtin.«dict.update.loop»;obtain⟨u,OA,t,n,o,rfl,hk,ho,hc,uC⟩:=hp 0 kv rfl;refine aA (wpAny_pyNext_list_item hit hl OA λh1 Yb sb=>?_);have nd:d≠it:=λz=>by
   obtain⟨o,_,_,q,_,c,_⟩:=hd;obtain⟨o',q',_,c'⟩:=hit;rw [z,q'] at q;cases q;rw [c'] at c;cases c
  have n2:∀b o,(o.cls=.type "tuple" \/ o.cls=.type "list")->158->b≠d/\b≠it:=by
   intro b o c q;constructor
   .intro z;obtain⟨o',q',c'⟩:=hd.typeIs;rw [z,q'] at q;cases q;rw [c'] at c;rcases c with c | c <;> exact absurd c nofun
   intro z;obtain⟨o',q',c',_⟩:=hit;rw [z,q'] at q;cases q;rw [c'] at c;rcases c with c | c <;> exact absurd c nofun
  have nt:∀b o,o.cls=.type "tuple" -> 158->b≠d/\b≠it:=λb o c q=>n2 b o (.inl c) q;have nl:l≠d/\l≠it:=by
   obtain⟨o,q,c,_⟩:=hl;exact n2 l o (.inr c) q
  have X6:∀b o,o.cls=.type "tuple" -> 158->h1.get? b=some o:=λb o c q=>(sb.2 b (nt b o c q).2).trans q;have MJ:h1.get? t=some o:=X6 t o hc ho;have MM:h1.DictOfH (tupleKind (aX prog w)) d kvs:=xR hd (λo q=>(sb.2 d nd).trans q) X6;refine aA (jZ (aA (wpAny_tryCatch ?_)));unfold Builtin.Dict.pairItems;refine aA (i7 (T := "tuple") ⟨o,MJ,hc⟩ ?_);rw [aw nofun];refine aA (qZ MJ uC (aH ?_));show wpAny _ _ (holding [.ref kv.2.1,kv.2.2] (dictSet d (.ref kv.2.1) kv.2.2)) _ _ _;rw [dI] at hz hi;refine jZ (wpAny_dictSet_heap (s:={ s with heap:=h1 }) (oT hu) (wO hk X6) MM (λh2 hd2 Rh=>?_) ∅);have kk:∀b o,b≠d->b≠it->158->h2.get? b=some o:=λb o n1 n2 q=>(Rh.2 b n1).trans ((sb.2 b n2).trans q);have ln:(storedH kvs kv.1 kv.2.1 kv.2.2).length<=kvs.length+1:=by
   unfold storedH
   split
   .simp
   simp
  refine aH ⟨kr f_ _,ih (i+1) _ _ _ _ ∅ hd2 (Yb.at λo q=>(Rh.2 it (d8 nd)).trans q) (hl.at λo q=>kk l o nl.1 nl.2 q) (λm X4 e=>?_) ∅ λh3 t3 iW k3=>?_⟩
  .obtain⟨u',e1,e2⟩:=hp (m+1) X4 e;exact⟨u',by rw [<-e1];congr 1;omega,e2.keep λb o c q=>kk b o (nt b o c q).1 (nt b o c q).2 q⟩
  exact hR h3 t3 iW λb o n1 n2 q=>k3 b o n1 n2 (kk b o n1 n2 q)
def qx {s:Shared}{l:Addr}{items:z0l}{n:Nat}{more:List (List aN×Addr×Value)}{Q:z0b}(hh:A.handled=none)(hu:A.units+2 < cLine)(hx:s.heap.get? l=some { cls:=.type "list",data:=.seq items n })
  (hi:items.size=more.length)(hp:∀(m:Nat) kv,more[m]?=some kv->∃u,items[m]?=some u/\lK prog w s.heap u kv)(hz:more.length<=sizeLine)
  (h:∀h' t',h'.DictOfH (tupleKind (aX prog w)) s.heap.objs.size (Df more [])->(∀b o,158->h'.get? b=some o)->Q (180) { s with heap:=h',toks:=t' }) :
  wpAny 150 A (call (.type "dict") [.ref l]) Q E s:=by
 refine callType_codes (Q₁:=λobj s₁=>obj=180/\s₁={ s with heap:=s.heap.push { cls:=.type "dict",data:=.dict #[] } }) F.kt_called_dict (F.kt_typeCall_dict_1 _) F.entry_dict_init (kt_code_dict_new _ ⟨rfl,rfl⟩) ?_;rintro obj s₁ ⟨rfl,rfl⟩;have Bl:(s.heap.push { cls:=.type "dict",data:=.dict #[] }).DictOfH (tupleKind (aX prog w)) s.heap.objs.size []:=Heap.DictOfH.new s.heap;have l0:=b9 { cls:=.type "dict",data:=.dict #[] } hx;refine⟨Bl.typeIs,F.args_dict_init_2 _ _,?_⟩;unfold Builtin.«dict.__init__» Builtin.Dict.selfAndRest;refine aA (aA (wt Bl.typeIs (aH ?_)));show wpAny _ _ (Builtin.Dict.updateFrom "dict.__init__" s.heap.objs.size (.ref l) [] .none) _ _ _;unfold Builtin.Dict.updateFrom;refine aA (i7 (T := "list") ⟨_,l0,rfl⟩ ?_);rw [aw AA];refine aA (pC l0 hh λh1 t1 k1=>?_);refine aA (kj ?_);have l1:=k1 _ _ l0;refine aA (oP ⟨_,l1,rfl,_,rfl⟩ ?_);have k2:∀b o,158->(h1.push { cls:=.type "list_iterator",data:=.fields #[.ref l,.int 0 0] }).get? b=some o:=λb o q=>b9 _ (k1 _ _ (b9 _ q));refine aH ⟨kr f_ _,LA (A:=A.in1) (l:=l) (items:=items) (show A.in1.handled=none from hh) (show A.in1.units+1 < cLine by rw [rg];omega) more 0 _ [] _ _ (by rw [hi,oH]) ?_ ⟨_,dA _ rfl,rfl,rfl⟩ ⟨_,k2 _ _ hx,rfl,n,rfl⟩ (λm kv e=>?_) (by simpa using hz) λh' t' hd k3=>?_⟩
 .exact xR Bl (λo q=>b9 _ (k1 _ _ q)) λb o _ q=>b9 _ (k1 _ _ q)
 .obtain⟨u,e1,e2⟩:=hp m kv e;exact⟨u,by rw [oH];exact e1,e2.keep λb o _ q=>k2 b o q⟩
 refine⟨rfl,h h' t' hd λb o q=>k3 b o (bU (bC q)) ?_ (k2 b o q)⟩;have:=bC (k1 _ _ (b9 { cls:=.type "dict",data:=.dict #[] } q));exact bU this
end
def oq (kvs bX:List (List aN×V)):List (List aN×V):=kvs.foldl (λa p=>bQ a p.1 p.2) bX
theorem vx {H:Hp}:∀{kvs:List (List aN×V)}{vs:List (List aN×Addr×Value)}{bX:List (List aN×V)}{Je:List (List aN×Addr×Value)},KT H kvs vs->KT H bX Je->KT H (oq kvs bX) (Df vs Je)
 | _,_,_,_,.nil,h=>h
 | _,_,_,_,.cons (a:=p) (b:=q) r t,h=>by
  obtain⟨e,hb,rv⟩:=r;show KT H (oq _ (bQ _ p.1 p.2)) (Df _ (storedH _ q.1 q.2.1 q.2.2));rw [<-e];exact vx t (h.put p.1 hb rv)
theorem vy:∀(kvs bX:List (List aN×V)),(oq kvs bX).length<=bX.length+kvs.length
 | [],bX=>by simp [oq]
 | p::r,bX=>by
  have:=vy r (bQ bX p.1 p.2);have:=fX bX p.1 p.2;show (oq r (bQ bX p.1 p.2)).length<=_;rw [dI];omega
section
variable {X:Cx}{ag:z0e}{σ:St}{H:Hp}{s:Shared}
abbrev QC (K:bp)(H:Hp)(t:Addr)(kv:List aN×V):Prop:=∃b,aY K H t [.ref b,kv.2]/\H b=some (.tup (kv.1.map kV))
theorem vc (I:133):∀{ts:z0q}{kvs:List (List aN×V)}{aT:z0n},Paired (QC X.K H) ts kvs->bF (ts.map V.ref) aT ->
  ∃vs:List (List aN×Addr×Value),KT H kvs vs/\Paired (λu kv=>lK X.prog X.w s.heap u kv) aT vs
 | [],_,_,.nil,r=>by
  rw [ml] at r;cases r;exact⟨[],.nil,.nil⟩
 | t::ts,kv::kvs,_,.cons h p,r=>by
  rw [cD] at r;cases r with
  | cons r1 r2 =>
   obtain⟨vs,e1,e2⟩:=vc I p r2;obtain⟨b,h0,hb⟩:=h;obtain⟨aT,rv,⟨o,h1,h2,n,h3⟩,_⟩:=I.tuple h0;obtain⟨u1,u2,rfl,q1,q2⟩:=vals2 rv;cases (show u1=Value.ref b from q1);exact⟨(kv.1,b,u2)::vs,.cons ⟨rfl,hb,q2⟩ e1,.cons ⟨t,n,o,r1,mR I.cu hb,h1,h2,h3⟩ e2⟩
def zN (hc:X.calm=true)(hu:X.A.units+2 < cLine):iV X (.type "dict") (λxs H Q=>∃a ts kvs,xs=[.ref a]/\H a=some 163/\Paired (QC X.K H) ts kvs/\∀d,H d=none->Q (.ref d) (upd H d (.dT (oq kvs [])))):=by
 intro ag s σ H xs us Q I r h;obtain⟨a,ts,kvs,rfl,e,p,q⟩:=h;obtain⟨u,rfl,rx⟩:=vals1 r;cases (show u=Value.ref a from rx);obtain⟨z,aT,n,rv,ho⟩:=(show cP X.prog X.w H s.heap a (.lst _) from I.cu a _ e);obtain⟨vs,r1,r2⟩:=vc I p rv;have l1:=bc r2;have l2:=bc r1;have l3:=bc p;rw [au] at z;refine qx (I.ok.hd hc) hu ho (by simpa using l1) (λm kv em=>?_) ∅ λh' t' hd kk=>?_
 .obtain⟨u,e1,e2⟩:=Paired.at_ r2 m kv em;exact⟨u,by simpa using e1,e2⟩
 have fr:=I.cu.fresh (aG s.heap.objs.size);have new:cP X.prog X.w (upd H s.heap.objs.size (.dT (oq kvs []))) h' s.heap.objs.size (.dT (oq kvs [])):=by
  obtain⟨o,es,ep,hq,h2,h3,h4,_,h5⟩:=hd;refine⟨?_,?_,_,(vx r1 .nil).keeps λc ys ec=>?_,o,es,ep,hq,h2,h3,h4,h5⟩
  .have:=vy kvs [];simp at this;omega
  .have:=I.big;exact kc.mpr (lN this)
  rw [aj (aC ec fr)];exact ec
 exact⟨180,_,I.laid (t':=t') kk (aG _) new,rfl,q _ fr⟩
end
open PySem M11
def EX {K:bp}{H:Hp}{bg D:Addr}{ts:z0q}{aW:List Be}{σ:St}{x1 x2 x3 x4:Str}{Qp:Hp->Prop}(hb:aI K H bg (ts.map V.ref))(Qh:Paired (λt (b:Be)=>aY K H t [.str b.1,.str b.2.1,.int (b.2.2.1:Int),.int (b.2.2.2:Int)]) ts aW)(bN:aW.length<=900000)(hD:H D=none)
  (q:∀us H2,aD H H2->H2 D=some (.lst (us.map V.ref))->Paired (λu (b:Be)=>∃v,QC K H2 u ([Sum.inr b.1,Sum.inr b.2.1],.ref v)) us aW->Qp H2) :
  ∃W:183,(∃m,W 0 m [] (dO [x1,x2,x3,x4] [] σ) 179) /\
 ∀i m ys σ' H,W i m ys σ' H->((jG K bg).stop i H/\Qp H)\/((jG K bg).go i H/\∃m',m' < m/\∀x H',(jG K bg).lS i H x H'->zq K 4 (iT (dD 0) (iT (dD 1) (iT (dD 2) (iT (dD 3) BN)))) x σ' H' λσ2 H2=>hV σ2 H2 λb H3 =>
  if b=true then uu (gQ (uu (gQ (gK 0) (gQ (gK 1) qj))) (gQ (uu (gQ (gK 2) (gQ (gK 3) qj))) qj)) σ2 H3 182 else W (i+1) m' ys σ2 H3):=by
 have ll:=bc Qh;refine bT (xs:=ts.map V.ref) (λi ys σ2 H2=>∃us:z0q,ys=us.map V.ref/\us.length=i/\Paired (λu (b:Be)=>∃v,QC K H2 u ([Sum.inr b.1,Sum.inr b.2.1],.ref v)) us (aW.take i)/\(∃y0 y1 y2 y3,σ2=[y0,y1,y2,y3])/\aD H H2/\H2 D=some (.lst ys))
  ⟨[],rfl,rfl,.nil,⟨none,none,none,none,rfl⟩,af hD _,ae⟩ (λi ys σ2 H2 _ h=>?_) (λi x ys σ2 H2 ex h=>?_) (λys σ2 H2 h=>?_)
 .obtain⟨_,_,_,_,_,sm,_⟩:=h;exact sm.seq hb
 .obtain⟨us,rfl,hu,hp,⟨y0,y1,y2,y3,rfl⟩,sm,hd⟩:=h;rw [a0] at ex;obtain⟨r,er,rfl⟩:=b0.mp ex;have lr:=(bw.mp er).1;obtain⟨b,e1⟩:∃b,aW[i]?=some b:=⟨aW[i]'∅,df ∅⟩;obtain⟨r',Tv,v1⟩:=Paired.at_ Qh i b e1;rw [er] at Tv;cases Tv;have li:=(bw.mp e1).1;refine⟨r,_,rfl,sm.tup v1,rfl,_,_,rfl,_,_,rfl,_,_,rfl,_,_,rfl,rfl,?_⟩;refine vq ?_;refine⟨_,rfl,_,rfl,qi,λk hk=>⟨_,rfl,_,rfl,qi,λv hv=>⟨qi,λu Ve=>?_⟩⟩⟩;have s3:=(af hk (.tup [V.str b.1,V.str b.2.1])).trans ((af hv (.tup [V.int (b.2.2.1:Int),V.int (b.2.2.2:Int)])).trans (af Ve (.tup [.ref k,.ref v])));have ek:=((af hv (.tup [V.int (b.2.2.1:Int),V.int (b.2.2.2:Int)])).trans (af Ve (.tup [.ref k,.ref v]))) k _ ae;have eu:aY K (upd (upd (upd H2 k (.tup [V.str b.1,V.str b.2.1])) v (.tup [V.int (b.2.2.1:Int),V.int (b.2.2.2:Int)])) u (.tup [.ref k,.ref v])) u [.ref k,.ref v]:=aY.of ae;generalize upd (upd (upd H2 k (.tup [V.str b.1,V.str b.2.1])) v (.tup [V.int (b.2.2.1:Int),V.int (b.2.2.2:Int)])) u (.tup [.ref k,.ref v])=H4 at s3 ek eu;have C9:=s3 _ _ hd;refine⟨C9,176,us++[u],by rw [bj];rfl,by rw [a8,hu];rfl,?_,⟨_,_,_,_,rfl⟩,?_,ae⟩
  .rw [cO,e1];have kD:k≠D:=λz=>by rw [z,C9] at ek;cases ek
   refine gk (Paired.b_ hp λu' b' bI=>?_) ⟨v,k,bz C9 eu,by rw [aj kD];exact ek⟩;obtain⟨v',bb,p1,p2⟩:=bI;exact⟨v',bb,bz C9 (s3.tup p1),by rw [aj (λz=>by rw [z,hd] at p2;cases p2)];exact s3 _ _ p2⟩
  intro c o hc;rw [aj (λz=>by rw [z,hD] at hc;cases hc)];exact s3 _ _ (sm c o hc)
 obtain⟨us,rfl,hu,hp,_,sm,hd⟩:=h;rw [au,ll,cw] at hp;exact q us H2 sm hd hp
theorem G0 {K:bp}{H:Hp}:∀{us:z0q}{aW:List Be},Paired (λu (b:Be)=>∃v,QC K H u ([Sum.inr b.1,Sum.inr b.2.1],.ref v)) us aW->∃kvs,Paired (QC K H) us kvs
 | _,_,.nil=>⟨[],.nil⟩
 | _,_,.cons ⟨v,h⟩ t=>let ⟨kvs,p⟩:=G0 t;⟨_::kvs,.cons h p⟩
end L2
namespace g9
open PySem L2 M11
def Tab.s2 {T T1 T2:Addr}{p p1 p2:Pos}{q q1 q2:Str}{H H':Hp}(h:Tab T p q H)(s:mh T1 T2 H H')(t1:Tab T1 p1 q1 H)(t2:Tab T2 p2 q2 H)(n1:T≠T1)(n2:T≠T2):Tab T p q H':=by
 obtain⟨ps,a,b,c⟩:=h;obtain⟨U1,b1,_⟩:=t1;obtain⟨ps2,b2,_⟩:=t2;refine⟨ps,s _ _ n1 n2 a,b,c.imp id ?_⟩;rintro⟨c',e,g⟩;exact⟨c',e,s _ _ (λz=>by rw [z,b1] at g;cases g) (λz=>by rw [z,b2] at g;cases g) g⟩
def kK {T a C dx:Addr}{pos:Pos}{qu:Str}{H:Hp}{fs:List (Str×V)}{o:HO}(h:Tab T pos qu H)(ha:H a=some (.ins C dx fs)):Tab T pos qu (upd H a o):=by
 obtain⟨ps,p,r,c⟩:=h;refine⟨ps,by rw [aj (λz=>by rw [z,ha] at p;cases p)];exact p,r,c.imp id ?_⟩;rintro⟨c',e,g⟩;exact⟨c',e,by rw [aj (λz=>by rw [z,ha] at g;cases g)];exact g⟩
def Kp (H H':Hp):Prop:=∀b o,H b=some o->(∀ps,o≠.ui ps)->H' b=some o
def Kp.of {H H':Hp}(s:aD H H'):Kp H H':=λb o h _=>s b o h
def Kp.of2 {T1 T2:Addr}{p1 p2:Pos}{q1 q2:Str}{H H':Hp}(s:mh T1 T2 H H')(t1:Tab T1 p1 q1 H)(t2:Tab T2 p2 q2 H):Kp H H':=λc o hc hn=>by
 obtain⟨U1,b1,_⟩:=t1;obtain⟨ps2,b2,_⟩:=t2;exact s c o (λz=>by rw [z,b1] at hc;cases hc;exact hn _ rfl) (λz=>by rw [z,b2] at hc;cases hc;exact hn _ rfl) hc
section
theorem Kp.lst {H H':Hp}(k:Kp H H'){a:Addr}{xs:List V}(h:H a=some (.lst xs)):H' a=some (.lst xs):=k a _ h (λ_ z=>by cases z)
def Kp.tup {H H':Hp}(k:Kp H H'){a:Addr}{xs:List V}(h:aY K H a xs):aY K H' a xs:=by
 rcases h with (h | ⟨u,h⟩) | h
 .exact .inl (.inl (k _ _ h (λ_ z=>by cases z)))
 .exact .inl (.inr ⟨u,k _ _ h (λ_ z=>by cases z)⟩)
 exact .inr h
def Kp.seq {H H':Hp}(k:Kp H H'){a:Addr}{xs:List V}(h:aI K H a xs):aI K H' a xs:=by
 rcases h with (h | ⟨u,h⟩) | h
 .exact .inl (.inl (k _ _ h (λ_ z=>by cases z)))
 .exact .inl (.inr ⟨u,k _ _ h (λ_ z=>by cases z)⟩)
 exact .inr h
theorem Kp.aa {H H':Hp}(k:Kp H H'){rs:z0q}{aa:83}(h:bK K H rs aa):bK K H' rs aa:=h.keep λ_ _ z=>k.tup z
abbrev AS:Stmt:=Mt sLT 0
structure LC (K:bp)(C:Addr):Prop where
 cls:Fe K C
 a1:dZ K C "rules"
 a2:dZ K C "empty"
 a3:dZ K C "least"
 a4:dZ K C "hollow"
 a5:dZ K C "beginnings"
structure Fy (C3 T1 T3:Addr)(H0 H:Hp)(a dx:Addr)(fs:List (Str×V)):Prop where
 sm:mh T1 T3 H0 H
 ia:H a=some (.ins C3 dx fs)
 fa:H0 a=none
 t1:Tab T1 sR.2.2.2 z_ H
 t3:Tab T3 posB Jy H
 o1:Tab T1 sR.2.2.2 z_ H0
 o3:Tab T3 posB Jy H0
def Fy.kp {C3 T1 T3 a dx:Addr}{H0 H:Hp}{fs:List (Str×V)}(h:Fy C3 T1 T3 H0 H a dx fs):Kp H0 H:=Kp.of2 h.sm h.o1 h.o3
def Fy.set {C3 T1 T3 a dx:Addr}{H0 H:Hp}{fs:List (Str×V)}(h:Fy C3 T1 T3 H0 H a dx fs)(MP:List (Str×V)):Fy C3 T1 T3 H0 (upd H a (.ins C3 dx MP)) a dx MP :=
 ⟨λb o n1 n3 hb=>by rw [aj (λz=>by rw [z,h.fa] at hb;cases hb)];exact h.sm b o n1 n3 hb,ae,h.fa,kK h.t1 h.ia,kK h.t3 h.ia,h.o1,h.o3⟩
def Fy.next {C3 T1 T3 a dx:Addr}{H0 H H':Hp}{fs:List (Str×V)}(h:Fy C3 T1 T3 H0 H a dx fs)(s:aD H H'):Fy C3 T1 T3 H0 H' a dx fs :=
 ⟨λb o n1 n3 hb=>s _ _ (h.sm b o n1 n3 hb),s _ _ h.ia,h.fa,h.t1.same s,h.t3.same s,h.o1,h.o3⟩
def Fy.RJ {C3 T1 T3 a dx:Addr}{H0 H H':Hp}{fs:List (Str×V)}(h:Fy C3 T1 T3 H0 H a dx fs)(s:mh T1 T3 H H')(t1:Tab T1 sR.2.2.2 z_ H')(t3:Tab T3 posB Jy H'):Fy C3 T1 T3 H0 H' a dx fs :=
 ⟨λb o n1 n3 hb=>s _ _ n1 n3 (h.sm b o n1 n3 hb),Kp.of2 s h.t1 h.t3 _ _ h.ia (λ_ z=>by cases z),h.fa,t1,t3,h.o1,h.o3⟩
def CD (K:bp)(C C3 T1 T3:Addr):Sp:=λvs H Q _=>∃(H0 Hb:Hp)(a dx R x e d bg:Addr)(rs:z0q)(aa:83)(kE:87)(aL:z0h)(ps:z0f)(aW:List Be),vs=[.ref a,.ref R,.ref x]/\aD H0 H/\H0 a=none/\H a=some (.ins C3 dx [])/\aI K H0 R 146/\bK K H0 rs aa /\
 aa.length < 64/\198/\(∀g,dY M11.bl aa (zr aa) g->iC M11.bl aa g->∀h∈hd aa,∃n,g h=some n/\n<=60)/\oC K C Hb H0 x e d bg kE aL ps aW/\uc aa aL/\aW.length<=80000/\Tab T1 sR.2.2.2 z_ H0/\Tab T3 posB Jy H0/\T1≠T3 /\
 ∀H',mh T1 T3 H0 H'->Tab T1 sR.2.2.2 z_ H'->Tab T3 posB Jy H'->Q .d0 H'
def J_:aK ["self","rules","begin_table"] ["self","rules","begin_table"] (ay AS):=152
def Ho {C C3 T1 T3:Addr}(F:ir K "__init__" "LeastTrees.__init__" AS f fd)(T:Txt mg)(B:BC K C)(L:LC K C3)(GL:aF P w K mg base 4 "least_by_part" ["rules"] (oX K T1 T3))(GE:aF P w K mg base 4 "empty_by_name" ["rules","empties"] (u5 K)) :
  bR P w K mg base fK 5 f fd ["self","rules","begin_table"] (CD K C C3 T1 T3):=by
 refine F.ok J_ 157 161
 .obtain⟨H0,Hb,a,dx,R,x,e,d,bg,rs,aa,kE,aL,ps,aW,rfl,_⟩:=h;rfl
 obtain⟨H0,Hb,a,dx,R,x,e,d,bg,rs,aa,kE,aL,ps,aW,rfl,s0,f0,ea,hR,cI,bN,h8,Ir,S,emp,Oq,t1,t3,nT,q⟩:=h;have hu:=rq (Nat.add_le_add_left (by decide:2<=64) _) hr.units;refine⟨_,ai (gU (pv 0) (pv 1) rfl)
  (ai (gU (pv 0) (dr (pv 2) rfl) rfl)
  (ai (gU (pv 0) (bu GL hr rfl (ab (pv 1) ak)) rfl)
  (ai (gU (pv 0) (bu GE hr rfl (ab (pv 1) (ab (dr (pv 2) rfl) ak))) rfl)
  (ao (gU (pv 0) (bL (zN rfl hu) rfl T.Dk gA (ab (aV ["name","word","number","place"] [] rfl (aR (dr (pv 2) rfl)) (aS rfl rfl) nofun rfl nofun
   (λ_ _ _ _ _=>dF (n:=4) K rfl (aB (aq (i:=0) (show (["name","word","number","place"]:z0t).Nodup by decide +kernel) rfl 84) (aB (aq (i:=1) (show (["name","word","number","place"]:z0t).Nodup by decide +kernel) rfl 84) (aB (aq (i:=2) (show (["name","word","number","place"]:z0t).Nodup by decide +kernel) rfl 84) (aB (aq (i:=3) (show (["name","word","number","place"]:z0t).Nodup by decide +kernel) rfl 84) bH))))) 177
   (λ_ _ _ _ _=>bW (ab (bW (ab (pv 0) (ab (pv 1) ak))) (ab (bW (ab (pv 2) (ab (pv 3) ak))) ak)))) ak)) rfl))))),?_⟩
 nofun
 have S0:Fy C3 T1 T3 H0 H a dx []:=⟨λb o _ _ hb=>s0 b o hb,ea,f0,t1.same s0,t3.same s0,t1,t3⟩;obtain⟨e1,te,⟨Qw,JI,VD,leb⟩,ee1,evb,_⟩:=S.em;obtain⟨aaN,aaH,Tq,l1,l2,_⟩:=S.ia;rw [VD] at Tq;cases Tq;obtain⟨tb,ebg,Qh⟩:=S.lb;have lets:=emp.len;refine⟨_,rfl,_,rfl,a,C3,dx,[],rfl,S0.ia,L.cls,L.a1,(by show 0 < 1000;decide),?_⟩;have S1:=S0.set (dU "rules" (.ref R) []);generalize Vq:dU "rules" (.ref R) []=VB at S1;generalize upd H a (.ins C3 dx VB)=H1 at S1;have x1:H1 x=some (.ins C Qw JI):=S1.kp _ _ VD (λ_ z=>by cases z);refine⟨_,rfl,x,C,Qw,JI,_,rfl,x1,B.cls,B.a2,l1,_,rfl,a,C3,dx,VB,rfl,S1.ia,L.cls,L.a2,(by rw [<-Vq];show 1 < 1000;decide),?_⟩;have S2:=S1.set (dU "empty" (.ref e) VB);generalize OM:dU "empty" (.ref e) VB=qM at S2;generalize upd H1 a (.ins C3 dx qM)=H2 at S2;refine⟨_,rfl,R,rs,aa,rfl,S2.kp.seq hR,S2.kp.aa cI,bN,h8,Ir,S2.t1,S2.t3,nT,λdl kl H3 fdl s3 z8 t33 edl kdl=>?_⟩;have S3:=S2.RJ s3 z8 t33;refine⟨_,rfl,a,C3,dx,qM,rfl,S3.ia,L.cls,L.a3,(by rw [<-OM,<-Vq];show 2 < 1000;decide),?_⟩;have S4:=S3.set (dU "least" (.ref dl) qM);generalize hf4:dU "least" (.ref dl) qM=Ql at S4;generalize upd H3 a (.ins C3 dx Ql)=H4 at S4;have x4:H4 x=some (.ins C Qw JI):=S4.kp _ _ VD (λ_ z=>by cases z);refine⟨_,rfl,_,rfl,x,C,Qw,JI,_,rfl,x4,B.cls,B.a1,leb,R,e1,rs,te,aa,aL,rfl,S4.kp.seq hR,S4.kp.aa cI,∅,h8,aI.of (S4.kp.lst ee1),evb.keep λ_ _ z=>S4.kp.tup z,emp,∅,λdh kh H5 fdh s5 edh kdh=>?_⟩;have S5:=S4.next s5;refine⟨_,rfl,a,C3,dx,Ql,rfl,S5.ia,L.cls,L.a4,(by rw [<-hf4,<-OM,<-Vq];show 3 < 1000;decide),?_⟩;have S6:=S5.set (dU "hollow" (.ref dh) Ql);generalize hf6:dU "hollow" (.ref dh) Ql=Ac at S6;generalize upd H5 a (.ins C3 dx Ac)=H6 at S6;have x6:H6 x=some (.ins C Qw JI):=S6.kp _ _ VD (λ_ z=>by cases z);have b6:=S6.kp.lst ebg;have v6:Paired (λt (b:Be)=>aY K H6 t [.str b.1,.str b.2.1,.int (b.2.2.1:Int),.int (b.2.2.2:Int)]) tb aW:=Paired.b_ Qh λ_ _ z=>S6.kp.tup z;refine⟨_,rfl,x,C,Qw,JI,_,rfl,x6,B.cls,B.a3,l2,bg,rfl,⟨_,aI.of b6⟩,λD7 Y_=>EX (aI.of b6) v6 ∅ Y_ λus H7 s7 e7 p7=>?_⟩;obtain⟨kvs,pk⟩:=G0 p7;refine⟨D7,us,kvs,rfl,e7,pk,λdb ED=>?_⟩;have S8:=(S6.next s7).next (af ED (.dT (oq kvs [])));refine⟨_,rfl,a,C3,dx,Ac,rfl,S8.ia,L.cls,L.a5,(by rw [<-hf6,<-hf4,<-OM,<-Vq];show 4 < 1000;decide),?_⟩;have S9:=S8.set (dU "beginnings" (.ref db) Ac);exact q _ S9.sm S9.t1 S9.t3
structure Jq (K:bp)(x qual:Str)(st:Stmt)(f:Addr)(fd:FuncData):Prop where
 ex:∃(oc:Value)(od:z0m)(kV doc pm:Value)(an:z0m)(d5 ct:Value)(yL:z0a)(T:Addr)(o:Obj) (n:Nat),
  fd=PySem.W.fnOf x qual (dH st) (cJ st) (ay st) (.ref T) kV doc pm an d5 ct/\K.lookup f=some ⟨oc,od,.func fd,yL⟩/\PySem.W.codeIn K d5 qual=true/\K.lookup T=some o/\o.data=.seq #[.none] n
 kp:PySem.W.keepIn K (.ref f)=true
def Jq.ok {x qual:Str}{st:Stmt}{f:Addr}{fd:FuncData}{N ps:z0t}{k:Nat}{sp:Sp}(F:Jq K x qual st f fd)(S:aK N ps (ay st))(len:∀vs H Q E,sp vs H Q E->vs.length=ps.length)
  (jB:∀(d5:Value)(A:Around)(outer:List Env)(s:Shared)(H:Hp)(vs:List V)(Q:VK)(E:XK),gC k (A.deeper (PyProof.Rows.envOfC qual (ay st) s.heap.objs.size f d5))->sp vs H Q E ->
   ∃t,Cd (pJ fK P w K mg base N qual (ay st) f d5 A outer s H E).KP (cJ st) t/\t { nx:=λ_ H'=>Q .d0 H',rt:=Q } (start N vs) H):bR P w K mg base fK (k+1) f fd ps sp:=by
 obtain⟨oc,od,kV,doc,pm,an,d5,ct,yL,T,o,n,rfl,lk,yh,_⟩:=F.ex;refine IJ lk yh S len λA outer s H vs Q E hr Fp=>?_;obtain⟨t,h,q⟩:=jB d5 A outer s H vs Q E hr Fp;exact⟨t,h.KP,q⟩
def IC {f:Addr}{fd:FuncData}(F:Jq K "__init__" "Grammar.__init__" xj f fd):Binds K fd ["self","rules","strengths"] [.none]:=by
 obtain⟨oc,od,kV,doc,pm,an,d5,ct,yL,T,o,n,rfl,lk,yh,lT,dT⟩:=F.ex;intro s us KI hl;have uA:us.length=2:=by
  have:(us++[Value.none]).length=3:=hl;rw [a8] at this;exact Nat.succ.inj this
 match us,uA with
 | [u1,u2],_=>exact BindsTo.of_defaults rfl (KI T o lT) dT rfl rfl
structure GC (K:bp)(C:Addr):Prop where
 cls:Fe K C
 a1:dZ K C "rules"
 a2:dZ K C "strengths"
 a3:dZ K C "begin_table"
 a4:dZ K C "standings"
 a5:dZ K C "small_trees"
def StrIn (K:bp)(H:Hp)(sv:V)(ss:z0q)(str:83):Prop:=(sv=.d0/\ss=[]/\str=[])\/∃S,sv=.ref S/\aI K H S (ss.map V.ref)/\bK K H ss str
def GrV (H0 H:Hp)(Cg g:Addr)(rs ss:z0q)(bt:Addr):Prop:=∃gx fs R2 S2,H g=some (.ins Cg gx fs)/\fs.lookup ("rules":Str)=some (.ref R2)/\fs.lookup ("strengths":Str)=some (.ref S2)/\fs.lookup ("begin_table":Str)=some (.ref bt)/\fs.lookup ("start":Str)=none /\
 H R2=some (.lst 146)/\H S2=some (.lst (ss.map V.ref))/\H0 R2=none/\H0 S2=none
def qg (T1 T2 T3:Addr)(H H':Hp):Prop:=∀b o,b≠T1->b≠T2->b≠T3->H b=some o->H' b=some o
structure Dt (T1 T2 T3:Addr)(H:Hp):Prop where
 t1:Tab T1 sR.2.2.2 z_ H
 t2:Tab T2 Bs.2.2.2 Mu H
 t3:Tab T3 posB Jy H
 Mq:T1≠T2
 Mp:T1≠T3
 Mo:T2≠T3
theorem Dt.same {T1 T2 T3:Addr}{H H':Hp}(h:Dt T1 T2 T3 H)(s:aD H H'):Dt T1 T2 T3 H':=⟨h.t1.same s,h.t2.same s,h.t3.same s,h.Mq,h.Mp,h.Mo⟩
def Dt.FJ {T1 T2 T3 a C dx:Addr}{H:Hp}{fs:List (Str×V)}{o:HO}(h:Dt T1 T2 T3 H)(ha:H a=some (.ins C dx fs)):Dt T1 T2 T3 (upd H a o):=⟨kK h.t1 ha,kK h.t2 ha,kK h.t3 ha,h.Mq,h.Mp,h.Mo⟩
def Kp.of3 {T1 T2 T3:Addr}{H H':Hp}(s:qg T1 T2 T3 H H')(t:Dt T1 T2 T3 H):Kp H H':=λc o hc hn=>by
 obtain⟨U1,b1,_⟩:=t.t1;obtain⟨ps2,b2,_⟩:=t.t2;obtain⟨ps3,b3,_⟩:=t.t3;exact s c o (λz=>by rw [z,b1] at hc;cases hc;exact hn _ rfl) (λz=>by rw [z,b2] at hc;cases hc;exact hn _ rfl) (λz=>by rw [z,b3] at hc;cases hc;exact hn _ rfl) hc
structure Fz (K:bp)(C:Addr)(H:Hp)(a:Addr)(aa:83)(aL:z0h)(aW:List Be):Prop where
 ia:∃dx fs e1 bg,H a=some (.ins C dx fs)/\fs.lookup ("empties":Str)=some (.ref e1)/\fs.lookup ("begins":Str)=some (.ref bg)/\(∃ts,H e1=some 163/\oz K H ts aL) /\
  ∃ts,H bg=some 163/\Paired (λt (b:Be)=>aY K H t [.str b.1,.str b.2.1,.int (b.2.2.1:Int),.int (b.2.2.2:Int)]) ts aW
 emp:uc aa aL
 mX:qz aa aa.length aL
 Ja:um aa (hd aa) 195 aW
 zO:z5 aa (hd aa) 195 aa.length aW
 bs:∃e d bg kE ps,oC K C (λ_=>none) H a e d bg kE aL ps aW/\ps.map 82=hd aa/\∀z,(aZ kE 139).isSome=decide (z∈aL.map 82)
def B_ {C a e d bg:Addr}{H0 H H':Hp}{kE:87}{aL:z0h}{ps:z0f}{aW:List Be}(h:oC K C H0 H a e d bg kE aL ps aW)(k1:∀dx fs,H a=some (.ins C dx fs)->H' a=some (.ins C dx fs))(k2:∀b xs,H b=some (.lst xs)->H' b=some (.lst xs))(k3:∀b xs,aY K H b xs->aY K H' b xs)(k4:∀b xs,H b=some (.dK xs)->H' b=some (.dK xs)):oC K C (λ_=>none) H' a e d bg kE aL ps aW:=by
 refine⟨λ_ _ z=>(by cases z),?_,k4 _ _ h.he,k4 _ _ h.hd,h.n1,h.n2,λp hp=>?_,?_,rfl,?_⟩
 .obtain⟨dx,fs,q,r,NW,NV,NU,NT⟩:=h.ia;exact⟨dx,fs,k1 _ _ q,r,NW,NV,NU,NT⟩
 .obtain⟨⟨kvs,q,r⟩,t1,t2⟩:=h.dk p hp;exact⟨⟨kvs,k4 _ _ q,r⟩,rfl,t2⟩
 .obtain⟨ts,q,r⟩:=h.lb;exact⟨ts,k2 _ _ q,Paired.b_ r λ_ _ z=>k3 _ _ z⟩
 obtain⟨e1,ts,⟨dx,fs,q1,q2⟩,q3,q4,q5⟩:=h.em;exact⟨e1,ts,⟨dx,fs,k1 _ _ q1,q2⟩,k2 _ _ q3,q4.keep k3,q5⟩
def Fz.mv {C a:Addr}{H H':Hp}{aa:83}{aL:z0h}{aW:List Be}(h:Fz K C H a aa aL aW)(k1:∀dx fs,H a=some (.ins C dx fs)->H' a=some (.ins C dx fs))(k2:∀b xs,H b=some (.lst xs)->H' b=some (.lst xs))(k3:∀b xs,aY K H b xs->aY K H' b xs)(k4:∀b xs,H b=some (.dK xs)->H' b=some (.dK xs)):Fz K C H' a aa aL aW:=by
 obtain⟨dx,fs,e1,bg,q1,q2,q3,⟨t1,q4,q5⟩,t2,q6,q7⟩:=h.ia;exact⟨⟨dx,fs,e1,bg,k1 _ _ q1,q2,q3,⟨t1,k2 _ _ q4,q5.keep k3⟩,t2,k2 _ _ q6,Paired.b_ q7 λ_ _ z=>k3 _ _ z⟩,h.emp,h.mX,h.Ja,h.zO,(let ⟨e,d,bg,kE,ps,b,m,v⟩:=h.bs;⟨e,d,bg,kE,ps,B_ b k1 k2 k3 k4,m,v⟩)⟩
def Fz.kp {C a:Addr}{H H':Hp}{aa:83}{aL:z0h}{aW:List Be}(h:Fz K C H a aa aL aW)(k:Kp H H'):Fz K C H' a aa aL aW:=h.mv (λ_ _ z=>k _ _ z (λ_ y=>by cases y)) (λ_ _ z=>k.lst z) (λ_ _ z=>k.tup z) λ_ _ z=>k _ _ z (λ_ y=>by cases y)
def Fz.same {C a:Addr}{H H':Hp}{aa:83}{aL:z0h}{aW:List Be}(h:Fz K C H a aa aL aW)(k:aD H H'):Fz K C H' a aa aL aW:=h.kp (Kp.of k)
def Pw {C:Addr}{H0 H:Hp}{a e d bg:Addr}{kE:87}{aa:83}{aL:z0h}{ps:z0f}{aW:List Be}(h:oC K C H0 H a e d bg kE aL ps aW)(emp:uc aa aL)(mX:qz aa aa.length aL)(Ja:um aa (hd aa) 195 aW)(zO:z5 aa (hd aa) 195 aa.length aW)(JE:ps.map 82=hd aa)(hkE:∀z,(aZ kE 139).isSome=decide (z∈aL.map 82)):Fz K C H a aa aL aW:=by
 obtain⟨dx,fs,q1,_,q3,_⟩:=h.ia;obtain⟨e1,t1,⟨Po,qM,q4,q5⟩,q6,q7,_⟩:=h.em;obtain⟨t2,q8,q9⟩:=h.lb;rw [q1] at q4;cases q4;exact⟨⟨dx,fs,e1,bg,q1,q5,q3,⟨t1,q6,q7⟩,t2,q8,q9⟩,emp,mX,Ja,zO,e,d,bg,kE,ps,B_ h (λ_ _ z=>z) (λ_ _ z=>z) (λ_ _ z=>z) (λ_ _ z=>z),JE,hkE⟩
def CF (K:bp)(Cg C T1 T2 T3:Addr):Sp:=λvs H Q _=>∃(H0:Hp)(g gx R:Addr)(sv:V)(rs ss:z0q)(aa str:83)(rk:Str->Nat)(b:Str->Int),vs=[.ref g,.ref R,sv]/\aD H0 H/\H0 g=none/\H g=some (.ins Cg gx [])/\aI K H0 R 146/\bK K H0 rs aa/\aa.length < 64/\198/\aa≠[] /\
 StrIn K H0 sv ss str/\str.length<=1000/\(∀ru∈str,ru.2.length<=8)/\(str.flatMap (·.2)).Nodup/\Good aa rk b/\Dt T1 T2 T3 H0 /\
 ∀(bt:Addr)(H':Hp),qg T1 T2 T3 H0 H'->Dt T1 T2 T3 H'->GrV H0 H' Cg g rs ss bt->(∃aL aW,Fz K C H' bt aa aL aW)->Q .d0 H'
def oC.FJ {C:Addr}{H0 H:Hp}{a e d bg:Addr}{kE:87}{aL:z0h}{ps:z0f}{aW:List Be}{g Cg gx:Addr}{fs MP:List (Str×V)}(h:oC K C H0 H a e d bg kE aL ps aW)(hg:H0 g=some (.ins Cg gx fs))(na:a≠g) :
  oC K C (upd H0 g (.ins Cg gx MP)) (upd H g (.ins Cg gx MP)) a e d bg kE aL ps aW:=by
 have Lm:=h.sm _ _ hg;have up:∀c o,c≠g->H c=some o->upd H g (.ins Cg gx MP) c=some o:=λc o n q=>by rw [aj n];exact q
 refine⟨λc o hc=>?_,?_,up _ _ (λz=>by have:=h.he;rw [z,Lm] at this;cases this) h.he,up _ _ (λz=>by have:=h.hd;rw [z,Lm] at this;cases this) h.hd,h.n1,h.n2,λp hp=>?_,?_,?_,?_⟩
 .by_cases z:c=g
  .rw [z,ae] at hc ⊢;exact hc
  rw [aj z] at hc ⊢;exact h.sm _ _ hc
 .obtain⟨dx,fs,q,r,NW,NV,NU,NT⟩:=h.ia;exact⟨dx,fs,up _ _ na q,r,NW,NV,NU,NT⟩
 .obtain⟨⟨kvs,q,r⟩,t1,t2⟩:=h.dk p hp;exact⟨⟨kvs,up _ _ (λz=>by rw [z,Lm] at q;cases q) q,r⟩,by rw [aj (λz=>by rw [z,hg] at t1;cases t1)];exact t1,t2⟩
 .obtain⟨ts,q,r⟩:=h.lb;exact⟨ts,up _ _ (λz=>by rw [z,Lm] at q;cases q) q,Paired.b_ r λ_ _ z=>gR Lm z⟩
 .have t1:=h.fb;rw [aj (λz=>by rw [z,hg] at t1;cases t1)];exact t1
 obtain⟨e1,ts,⟨dx,fs,q1,q2⟩,q3,q4,q5⟩:=h.em;exact⟨e1,ts,⟨dx,fs,up _ _ na q1,q2⟩,up _ _ (λz=>by rw [z,Lm] at q3;cases q3) q3,q4.keep λ_ _ z=>gR Lm z,q5⟩
def Kc:aK ["self","rules","strengths"] ["self","rules","strengths"] (ay xj):=152
def Ht {Cg C C3 T1 T2 T3 fB fL:Addr}{fdB fdL:FuncData}(F:Jq K "__init__" "Grammar.__init__" xj f fd)(T:Txt mg)(G:GC K Cg)(GR:aF P w K mg base 6 "refuse_faults" ["rules","strengths"] (rX K T1 T2))(GS:aF P w K mg base 6 "standings_by_part" ["rules"] (Mc K))
  (FB:bR P w K mg base fK 5 fB fdB ["self","rules"] (CH K C))(MB:Mk K C fB)(BB:Binds K fdB ["self","rules"] [])(mB:mg "BeginTable"=some (.ref C))
  (FL:bR P w K mg base fK 5 fL fdL ["self","rules","begin_table"] (CD K C C3 T1 T3))(ML:Mk K C3 fL)(BL:Binds K fdL ["self","rules","begin_table"] [])(mL:mg "LeastTrees"=some (.ref C3)):bR P w K mg base fK 7 f fd ["self","rules","strengths"] (CF K Cg C T1 T2 T3):=by
 refine F.ok Kc 157 161
 .obtain⟨H0,g,gx,R,sv,rs,ss,aa,str,rk,b,rfl,_⟩:=h;rfl
 obtain⟨H0,g,gx,R,sv,rs,ss,aa,str,rk,b,rfl,s0,f0,eg,hR,cI,bN,h8,jU,yg,Yl,Yr,Yq,gd,Y4,q⟩:=h;refine⟨_,ai (gU (pv 0) (bL gi rfl T.lst gy (ab (pv 1) ak)) rfl)
  (ai (ie (gU (pv 0) (kP (fw (N3 (pv 2))) (bM ak) (bL gi rfl T.lst gy (ab (pv 2) ak))) rfl))
  (ai (cT (bu GR hr rfl (ab (dr (pv 0) rfl) (ab (dr (pv 0) rfl) ak))))
  (ai (gU (pv 0) (bu GS hr rfl (ab (dr (pv 0) rfl) ak)) rfl)
  (ai (gU (pv 0) (xu MB FB hr rfl mB BB .nil lU (ab (dr (pv 0) rfl) ak)) rfl)
  (ao (gU (pv 0) (xu ML FL hr rfl mL BL .nil lU (ab (dr (pv 0) rfl) (ab (dr (pv 0) rfl) ak))) rfl)))))),?_⟩
 nofun
 refine⟨_,rfl,R,_,rfl,.inl (s0.seq hR),λR2 JH=>?_⟩;have ZC:=af JH (.lst 146) _ _ eg;have tI:upd H R2 (.lst 146) R2=some (.lst 146):=ae;have s01:=s0.trans (af JH (.lst 146));generalize upd H R2 (.lst 146)=H1 at ZC tI s01;refine⟨_,rfl,g,Cg,gx,[],rfl,ZC,G.cls,G.a1,(by show 0 < 1000;decide),?_⟩;generalize n8:dU "rules" (.ref R2) []=qM;have Qo:upd H1 g (.ins Cg gx qM) R2=some (.lst 146):=by rw [aj (λz=>by rw [z,ZC] at tI;cases tI)];exact tI
 have Gw:aD H0 (upd H1 g (.ins Cg gx qM)):=λc o hc=>by rw [aj (λz=>by rw [z,f0] at hc;cases hc)];exact s01 c o hc
 have VL:upd H1 g (.ins Cg gx qM) g=some (.ins Cg gx qM):=ae;generalize upd H1 g (.ins Cg gx qM)=H2 at Qo Gw VL;refine⟨λσ H3=>σ=[aE g,aE R,some sv]/\∃S2 fs,aD H0 H3/\H3 g=some (.ins Cg gx fs)/\fs=dU "strengths" (.ref S2) qM/\H3 R2=some (.lst 146)/\H3 S2=some (.lst (ss.map V.ref))/\H0 S2=none,?_,?_⟩
 .have fin:∀S2,H2 S2=none->(λH3=>∃S2 fs,aD H0 H3/\H3 g=some (.ins Cg gx fs)/\fs=dU "strengths" (.ref S2) qM/\H3 R2=some (.lst 146)/\H3 S2=some (.lst (ss.map V.ref))/\H0 S2=none) (upd (upd H2 S2 (.lst (ss.map V.ref))) g (.ins Cg gx (dU "strengths" (.ref S2) qM)))/\upd H2 S2 (.lst (ss.map V.ref)) g=some (.ins Cg gx qM):=λS2 MN=>by
   have sl:=af MN (.lst (ss.map V.ref));have eS:upd H2 S2 (.lst (ss.map V.ref)) S2=some (.lst (ss.map V.ref)):=ae;have TC:=sl _ _ VL;refine⟨⟨S2,_,λc o hc=>?_,ae,rfl,?_,?_,Gw.free MN⟩,TC⟩
   .rw [aj (λz=>by rw [z,f0] at hc;cases hc)];exact sl _ _ (Gw c o hc)
   .rw [aj (λz=>by rw [z,VL] at Qo;cases Qo)];exact sl _ _ Qo
   rw [aj (λz=>by rw [z,VL] at MN;cases MN)];exact eS
  rcases yg with ⟨rfl,rfl,rfl⟩ | ⟨S,rfl,hS,Vg⟩
  .refine⟨_,rfl,_,rfl,?_⟩;refine By ?_;refine⟨uo,λS2 MN=>?_⟩;obtain⟨x1,x2⟩:=fin S2 MN;exact⟨_,rfl,g,Cg,gx,qM,rfl,x2,G.cls,G.a2,(by rw [<-n8];show 1 < 1000;decide),rfl,x1⟩
  refine⟨_,rfl,_,rfl,?_⟩;refine iS ?_;refine⟨_,rfl,S,_,rfl,.inl (Gw.seq hS),λS2 MN=>?_⟩;obtain⟨x1,x2⟩:=fin S2 MN;exact⟨_,rfl,g,Cg,gx,qM,rfl,x2,G.cls,G.a2,(by rw [<-n8];show 1 < 1000;decide),rfl,x1⟩
 rintro σ H3 ⟨rfl,S2,JJ,DN,TC,qr,er3,es3,fS2⟩;have lk1:JJ.lookup ("rules":Str)=some (.ref R2):=by rw [qr,<-n8];rfl
 have U9:JJ.lookup ("strengths":Str)=some (.ref S2):=by rw [qr,<-n8];rfl
 have Yn:bK K H3 ss str:=by
  rcases yg with ⟨_,rfl,rfl⟩ | ⟨S,_,_,Vg⟩
  .exact .nil
  exact Vg.same DN
 have z8:=Y4.same DN;refine⟨_,rfl,g,Cg,gx,JJ,_,rfl,TC,G.cls,G.a1,lk1,_,rfl,g,Cg,gx,JJ,_,rfl,TC,G.cls,G.a2,U9,R2,S2,rs,ss,aa,str,rk,b,rfl,aI.of er3,cI.same DN,∅,h8,jU,aI.of es3,Yn,Yl,Yr,Yq,gd,z8.t1,z8.t2,z8.Mq,λH4 UW t14 t24=>?_⟩;have K5:=Kp.of2 UW z8.t1 z8.t2;have t4:Dt T1 T2 T3 H4:=⟨t14,t24,Tab.s2 z8.t3 UW z8.t1 z8.t2 z8.Mp.symm z8.Mo.symm,z8.Mq,z8.Mp,z8.Mo⟩;have S04:qg T1 T2 T3 H0 H4:=λc o n1 n2 _ hc=>UW c o n1 n2 (DN c o hc);have eg4:=K5 _ _ TC (λ_ z=>by cases z);have er4:=K5.lst er3;have es4:=K5.lst es3;have Ss:bK K H4 rs aa:=K5.aa (cI.same DN);clear t14 t24 UW z8;refine⟨_,rfl,g,Cg,gx,JJ,_,rfl,eg4,G.cls,G.a1,lk1,R2,rs,aa,rfl,aI.of er4,Ss,∅,h8,λds H5 fds u9=>?_⟩;have IS:=u9 _ _ eg4;have er5:=u9 _ _ er4;have es5:=u9 _ _ es4;have Yu:=Ss.same u9;have t5:=t4.same u9;have S05:qg T1 T2 T3 H0 H5:=λc o n1 n2 n3 hc=>u9 _ _ (S04 c o n1 n2 n3 hc);refine⟨_,rfl,g,Cg,gx,JJ,rfl,IS,G.cls,G.a4,(by rw [qr,<-n8];show 2 < 1000;decide),?_⟩;generalize xJ:dU "standings" (.ref ds) JJ=Ac;have Xk:∀{Hx:Hp}{fx fy:List (Str×V)},Hx g=some (.ins Cg gx fx)->qg T1 T2 T3 H0 Hx->qg T1 T2 T3 H0 (upd Hx g (.ins Cg gx fy)):=λ{Hx fx fy} hg hs c o n1 n2 n3 hc=>by
  rw [aj (λz=>by rw [z,f0] at hc;cases hc)];exact hs c o n1 n2 n3 hc
 have Oi:∀{Hx:Hp}{fx fy:List (Str×V)}{b:Addr}{xs:List V},Hx g=some (.ins Cg gx fx)->Hx b=some (.lst xs)->upd Hx g (.ins Cg gx fy) b=some (.lst xs):=λ{Hx fx fy b xs} hg hb=>by
  rw [aj (λz=>by rw [z,hg] at hb;cases hb)];exact hb
 have S06:=Xk (fy:=Ac) IS S05;have Zw:=Oi (fy:=Ac) IS er5;have es6:=Oi (fy:=Ac) IS es5;have OC:bK K (upd H5 g (.ins Cg gx Ac)) rs aa:=Yu.keep λ_ _ z=>gR IS z;have t6:Dt T1 T2 T3 (upd H5 g (.ins Cg gx Ac)):=t5.FJ IS;have JK:upd H5 g (.ins Cg gx Ac) g=some (.ins Cg gx Ac):=ae;generalize upd H5 g (.ins Cg gx Ac)=H6 at S06 Zw es6 OC t6 JK;have lk6:Ac.lookup ("rules":Str)=some (.ref R2):=by rw [<-xJ,qr,<-n8];rfl
 refine⟨_,rfl,g,Cg,gx,Ac,_,rfl,JK,G.cls,G.a1,lk6,λx dx hx hdx ndx=>?_⟩;have sx:aD H6 (upd (upd H6 dx (.own x)) x (.ins C dx [])):=(af hdx _).trans (af (by rw [aj ndx.symm];exact hx) _);refine⟨H6,x,dx,R2,rs,aa,rfl,sx,hx,ae,aI.of Zw,OC,∅,h8,λe d bg kE aL ps aW H7 S7 m7 emp mX vE Ja zO=>⟨rfl,?_⟩⟩;have Qq:=S7.sm _ _ JK;have er7:=S7.sm _ _ Zw;have es7:=S7.sm _ _ es6;have t7:=t6.same S7.sm;have Yt:=OC.same S7.sm;have S07:qg T1 T2 T3 H0 H7:=λc o n1 n2 n3 hc=>S7.sm _ _ (S06 c o n1 n2 n3 hc);refine⟨_,rfl,g,Cg,gx,Ac,rfl,Qq,G.cls,G.a3,(by rw [<-xJ,qr,<-n8];show 3 < 1000;decide),?_⟩;generalize BJ:dU "begin_table" (.ref x) Ac=BO;have S08:=Xk (fy:=BO) Qq S07;have Zv:=Oi (fy:=BO) Qq er7;have es8:=Oi (fy:=BO) Qq es7;have Sr:bK K (upd H7 g (.ins Cg gx BO)) rs aa:=Yt.keep λ_ _ z=>gR Qq z;have t8:Dt T1 T2 T3 (upd H7 g (.ins Cg gx BO)):=t7.FJ Qq;have VJ:upd H7 g (.ins Cg gx BO) g=some (.ins Cg gx BO):=ae;have B8:oC K C (upd H6 g (.ins Cg gx BO)) (upd H7 g (.ins Cg gx BO)) x e d bg kE aL ps aW:=S7.FJ JK (λz=>by rw [z,JK] at hx;cases hx);generalize upd H7 g (.ins Cg gx BO)=H8 at S08 Zv es8 Sr t8 VJ B8;have P8:BO.lookup ("rules":Str)=some (.ref R2):=by rw [<-BJ,<-xJ,qr,<-n8];rfl
 have lb8:BO.lookup ("begin_table":Str)=some (.ref x):=by rw [<-BJ,<-xJ,qr,<-n8];rfl
 refine⟨_,rfl,g,Cg,gx,BO,_,rfl,VJ,G.cls,G.a1,P8,_,rfl,g,Cg,gx,BO,_,rfl,VJ,G.cls,G.a3,lb8,λy dy hy hdy ndy=>?_⟩;have sy:aD H8 (upd (upd H8 dy (.own y)) y (.ins C3 dy [])):=(af hdy _).trans (af (by rw [aj ndy.symm];exact hy) _);have Oq:=Ja.len ∅ h8;refine⟨H8,_,y,dy,R2,x,e,d,bg,rs,aa,kE,aL,ps,aW,rfl,sy,hy,ae,aI.of Zv,Sr,bN,h8,gd.least,B8,emp,Oq,t8.t1,t8.t3,t8.Mp,λH9 WT WI t39=>⟨rfl,?_⟩⟩;have K4:=Kp.of2 WT t8.t1 t8.t3;have MV:=K4 _ _ VJ (λ_ z=>by cases z);have er9:=K4.lst Zv;have es9:=K4.lst es8;have t9:Dt T1 T2 T3 H9:=⟨WI,Tab.s2 t8.t2 WT t8.t1 t8.t3 t8.Mq.symm t8.Mo,t39,t8.Mq,t8.Mp,t8.Mo⟩;have S09:qg T1 T2 T3 H0 H9:=λc o n1 n2 n3 hc=>WT _ _ n1 n3 (S08 c o n1 n2 n3 hc);refine⟨_,rfl,g,Cg,gx,BO,rfl,MV,G.cls,G.a5,(by rw [<-BJ,<-xJ,qr,<-n8];show 4 < 1000;decide),?_⟩;refine q x _ (Xk MV S09) (t9.FJ MV) ⟨gx,_,R2,S2,ae,?_,?_,?_,?_,Oi MV er9,Oi MV es9,s0.free JH,fS2⟩ ⟨aL,aW,?_⟩
 .rw [<-BJ,<-xJ,qr,<-n8];rfl
 .rw [<-BJ,<-xJ,qr,<-n8];rfl
 .rw [<-BJ,<-xJ,qr,<-n8];rfl
 .rw [<-BJ,<-xJ,qr,<-n8];rfl
 have nxg:x≠g:=λz=>by rw [z,JK] at hx;cases hx
 exact((Pw B8 emp mX Ja zO m7 vE).kp K4).mv (λ_ _ z=>by rw [aj nxg];exact z) (λ_ _ z=>Oi MV z) (λ_ _ z=>gR MV z) λb xs z=>by rw [aj (λy=>by rw [y,MV] at z;cases z)];exact z
def Cz (K:bp)(Cg:Addr):Sp:=λvs H Q _=>∃(H0:Hp)(g bt:Addr)(rs ss:z0q)(aa:83)(i_:ax),vs=[.ref g]/\GrV H0 H Cg g rs ss bt/\bK K H rs aa/\aa[0]?=some i_/\Q (.str i_.1) H
def J1:aK ["self"] ["self"] (ay AN):=152
def Hk {Cg:Addr}(F:ir K "start" "Grammar.start" AN f fd)(G:GC K Cg):bR P w K mg base fK 1 f fd ["self"] (Cz K Cg):=by
 refine F.ok J1 157 161
 .obtain⟨H0,g,bt,rs,ss,aa,i_,rfl,_⟩:=h;rfl
 obtain⟨H0,g,bt,rs,ss,aa,i_,rfl,⟨gx,fs,R2,S2,eg,l1,l2,l3,l4,e1,e2,_⟩,cI,Lb,q⟩:=h;refine⟨_,ao (br (ba bE (ba cU (dr (pv 0) rfl) av 137) av 137)),?_⟩;dsimp only [zC];have ll:=bc cI;have l0:=(bw.mp Lb).1;obtain⟨r0,VF,p,v1,v2⟩:=Paired.at_ cI 0 i_ Lb;have uJ:pK 146 ((0:Nat):Int)=some (.ref r0):=cK (by rw [a0,VF];rfl);exact⟨_,rfl,g,Cg,gx,fs,_,rfl,eg,G.cls,G.a1,l1,R2,_,_,_,rfl,rfl,aI.of e1,uJ,r0,_,_,_,rfl,rfl,v1,rfl,q⟩
end
def p_:z0t->Str->Nat
 | [],_=>0
 | a::r,x=>if a=x then 0 else p_ r x+1
theorem xG:∀(l:z0t)(x:Str),x∈l->l[p_ l x]?=some x
 | [],x,h=>by cases h
 | a::r,x,h=>by
  unfold p_;by_cases c:a=x
  .rw [aw c];exact congrArg some c
  rw [ar c];rcases b8.mp h with e | e
  .exact absurd e.symm c
  rw [List.getElem?_cons_succ];exact xG r x e
theorem sU:∀(l:z0t)(x:Str) (i:Nat),x∈l.take i->p_ l x < i
 | [],x,i,h=>by simp at h
 | a::r,x,0,h=>by simp at h
 | a::r,x,i+1,h=>by
  unfold p_;by_cases c:a=x
  .rw [aw c];omega
  rw [ar c];rw [rD] at h;rcases b8.mp h with e | e
  .exact absurd e.symm c
  have:=sU r x i e;omega
def wQ {l:z0t}{x:Str}{i:Nat}(h:x∈l.take i):∃j,j < i/\l[j]?=some x:=by
 obtain⟨j,hj⟩:=gO h;have lj:=(bw.mp hj).1;rw [dJ] at lj;rw [yj ∅] at hj;exact⟨j,∅,hj⟩
def C8 {aa:83}{ru:ax}(h:ru∈aa):ru.1∈hd aa:=(ig _ _ _).mpr (.inr (iw h))
def MK {aa:83}{x:Str}(h:x∈hd aa):∃ru∈aa,ru.1=x:=by
 rcases (ig _ _ _).mp h with h | h
 .cases h
 obtain⟨ru,a,b⟩:=bY.mp h;exact⟨ru,a,b⟩
def Tz {aa:83}{x:Str}(h:Em aa x):x∈hd aa:=by
 cases h with
 | mk h _=>exact C8 h
def IQ {aa:83}{aL:z0h}(h:uc aa aL):∀y∈aL.map 82,Em aa y:=by
 induction h with
 | nil=>intro y hy;cases hy
 | @snoc aL k ru _ e _ p ih =>
  intro y hy;rw [bj] at hy;rcases bO.mp hy with h | h
  .exact ih y h
  rw [bA.mp h];exact .mk (cC e) λq hq=>ih q (p q hq)
def Ia {b:Str->Bool}{zs:z0t}{i j:Nat}{x:Str}(h:K0 b zs j=true)(e:zs[i]?=some x)(n:i≠j):b x=true:=by
 cases hb:b x with
 | true=>rfl
 | false =>
  have li:=(bw.mp e).1;have m:((i:Nat):Int)∈EK b zs zs.length:=by
   unfold EK;exact bY.mpr ⟨i,gF.mpr ⟨j4.mpr li,by rw [e];show (!(b x))=true;rw [hb];rfl⟩,rfl⟩
  unfold K0 at h;rcases Bool.or_eq_true_iff.mp h with h | h
  .rw [<-cW h] at m;cases m
  rw [<-cW h] at m;have:=bA.mp m;omega
end g9
namespace M11
open PySem
def eO (a9:Bool) (bf e:z0t)(ru:ax):z0t:=if ((ru.2.all λp=>decide (p∈e) || (a9 && !decide (p∈bf))) && !decide (ru.1∈e))=true then e++[ru.1] else e
def hX (a9:Bool) (bf e:z0t)(aa:83):z0t:=aa.foldl (eO a9 bf) e
def passes {α:Type}(f:α->α):Nat->α->α
 | 0,a=>a
 | n+1,a=>f (passes f n a)
def bS (a9:Bool)(aa:83):z0t:=passes (λe=>hX a9 (aa.map 82) e aa) aa.length []
structure EO (a9:Bool) (bf:z0t)(aa:83) (e:z0t):Prop where
 nd:e.Nodup
 ord:∀(i:Nat)(h:Str),e[i]?=some h->∃cZ,(h,cZ)∈aa/\∀p∈cZ,p∈e.take i\/(a9=true/\p∉bf)
def EO.step {a9:Bool}{bf:z0t}{aa:83}{e:z0t}(h:EO a9 bf aa e){ru:ax}(hr:ru∈aa):EO a9 bf aa (eO a9 bf e ru):=by
 unfold eO
 split
 .rename_i c
  obtain⟨c1,c2⟩:=jj.mp c;have c2':ru.1∉e:=by simpa using c2
  refine⟨iI.mpr ⟨h.nd,85,λa ha b hb z=>c2' (by rw [<-bA.mp hb,<-z];exact ha)⟩,λi x hx=>?_⟩;by_cases l:i < e.length
  .rw [nq l] at hx;obtain⟨cZ,a,b⟩:=h.ord i x hx;refine⟨cZ,a,λp hp=>?_⟩;rw [qY ∅];exact b p hp
  have li:=(bw.mp hx).1;rw [a8,fO] at li;have:i=e.length:=by omega
  subst this;rw [lR (aG _),oG] at hx;cases hx;refine⟨ru.2,hr,λp hp=>?_⟩;rw [qY (aG _),cw];have:=eG.mp c1 p hp;simp only [Bool.or_eq_true,decide_eq_true_eq,ni,Bool.not_eq_true',decide_eq_false_iff_not] at this;exact this
 exact h
theorem EO.pass {a9:Bool}{bf:z0t}{aa:83}:∀(rs:83){e:z0t},(∀ru∈rs,ru∈aa)->EO a9 bf aa e->EO a9 bf aa (rs.foldl (eO a9 bf) e)
 | [],_,_,h=>h
 | ru::rs,_,hs,h=>EO.pass rs (λr hr=>hs r (cS _ hr)) (h.step (hs ru cR))
def ot (a9:Bool)(aa:83):EO a9 (aa.map 82) aa (bS a9 aa):=by
 have:∀n,EO a9 (aa.map 82) aa (passes (λe=>hX a9 (aa.map 82) e aa) n []):=by
  intro n
  induction n with
  | zero=>exact⟨gE,λi h e=>by cases e⟩
  | succ n ih=>exact EO.pass aa (λ_ h=>h) ih
 exact this _
def uY (a9:Bool) (bf e:z0t)(ru:ax):eO a9 bf e ru=e\/e.length < (eO a9 bf e ru).length:=by
 unfold eO
 split
 .right;simp
 left;rfl
theorem zt (a9:Bool) (bf:z0t):∀(rs:83) (e:z0t),e.length<=(rs.foldl (eO a9 bf) e).length
 | [],_=>aG _
 | ru::rs,e=>by
  have h1:=zt a9 bf rs (eO a9 bf e ru);have h2:=uY a9 bf e ru;show _<=(rs.foldl (eO a9 bf) (eO a9 bf e ru)).length;rcases h2 with h | h
  .rw [h] at h1 ⊢;exact h1
  omega
theorem tD (a9:Bool) (bf:z0t):∀(rs:83) (e:z0t),(rs.foldl (eO a9 bf) e=e/\∀ru∈rs,eO a9 bf e ru=e)\/e.length < (rs.foldl (eO a9 bf) e).length
 | [],_=>.inl ⟨rfl,λ_ h=>by cases h⟩
 | ru::rs,e=>by
  show (rs.foldl (eO a9 bf) (eO a9 bf e ru)=e/\_)\/_ < (rs.foldl (eO a9 bf) (eO a9 bf e ru)).length;rcases uY a9 bf e ru with h | h
  .rw [h];rcases tD a9 bf rs e with ⟨a,b⟩ | c
   .refine .inl ⟨a,λr hr=>?_⟩;rcases b8.mp hr with rfl | hr
    .exact h
    exact b r hr
   exact .inr c
  right;have:=zt a9 bf rs (eO a9 bf e ru);omega
theorem iQ:∀(l m:z0t),l.Nodup->(∀z∈l,z∈m)->l.length<=m.length
 | [],m,_,_=>gp _
 | x::r,m,hn,hs=>by
  have hx:=hs x cR;have Fq:=g_.mp hn;have:=iQ r (m.erase x) Fq.2 λz hz=>(List.mem_erase_of_ne (λe=>Fq.1 (by rw [<-e];exact hz))).mpr (hs z (cS _ hz));rw [Ao hx] at this;have:0 < m.length:=Ai hx;rw [dI];omega
def EO.sub {a9:Bool}{bf:z0t}{aa:83}{e:z0t}(h:EO a9 bf aa e):∀x∈e,x∈aa.map 82:=λx hx=>by
 obtain⟨i,hi⟩:=gO hx;obtain⟨cZ,a,_⟩:=h.ord i x hi;exact bY.mpr ⟨_,a,rfl⟩
def EN (a9:Bool)(aa:83):∀ru∈aa,eO a9 (aa.map 82) (bS a9 aa) ru=bS a9 aa:=by
 have eo:∀n,EO a9 (aa.map 82) aa (passes (λe=>hX a9 (aa.map 82) e aa) n []):=by
  intro n
  induction n with
  | zero=>exact⟨gE,λi h e=>by cases e⟩
  | succ n ih=>exact EO.pass aa (λ_ h=>h) ih
 have key:∀n,(passes (λe=>hX a9 (aa.map 82) e aa) (n+1) []=passes (λe=>hX a9 (aa.map 82) e aa) n []/\∀ru∈aa,eO a9 (aa.map 82) (passes (λe=>hX a9 (aa.map 82) e aa) n []) ru=passes (λe=>hX a9 (aa.map 82) e aa) n [])\/n < (passes (λe=>hX a9 (aa.map 82) e aa) (n+1) []).length:=by
  intro n
  induction n with
  | zero =>
   rcases tD a9 (aa.map 82) aa [] with h | h
   .exact .inl h
   exact .inr h
  | succ n ih =>
   rcases ih with ⟨a,b⟩ | c
   .left;rw [show passes (λe=>hX a9 (aa.map 82) e aa) (n+1+1) []=hX a9 (aa.map 82) (passes (λe=>hX a9 (aa.map 82) e aa) (n+1) []) aa from rfl,a];exact⟨a,b⟩
   rcases tD a9 (aa.map 82) aa (passes (λe=>hX a9 (aa.map 82) e aa) (n+1) []) with h | h
   .exact .inl h
   right;have h2:(passes (λe=>hX a9 (aa.map 82) e aa) (n+1) []).length < (passes (λe=>hX a9 (aa.map 82) e aa) (n+1+1) []).length:=h;omega
 rcases key aa.length with ⟨_,b⟩ | c
 .exact b
 have e1:=eo (aa.length+1);have:=iQ _ _ e1.nd e1.sub;rw [au] at this;omega
def xP {a9:Bool}{aa:83}{ru:ax}(hr:ru∈aa)(h:∀p∈ru.2,p∈bS a9 aa\/(a9=true/\p∉aa.map 82)):ru.1∈bS a9 aa:=by
 have:=EN a9 aa ru hr;unfold eO at this;by_cases c:ru.1∈bS a9 aa
 .exact c
 rw [aw] at this
 .have:=congrArg List.length this;rw [a8] at this;simp at this
 refine jj.mpr ⟨eG.mpr λp hp=>?_,by simpa using c⟩;simp only [Bool.or_eq_true,decide_eq_true_eq,ni,Bool.not_eq_true',decide_eq_false_iff_not];exact h p hp
def tK {aa:83}{x:Str}(h:Em aa x):x∈bS false aa:=by
 induction h with
 | mk hr _ ih=>exact xP hr λp hp=>.inl (ih p hp)
end M11
namespace g9
open PySem L2 M11
abbrev Gr:Stmt:=top 44
abbrev AR:Stmt:=top 45
abbrev w_:Stmt:=top 46
abbrev xm:Stmt:=top 47
abbrev Gi:Stmt:=top 48
abbrev Gk:Stmt:=top 49
abbrev AV:Stmt:=top 50
abbrev Gp:Stmt:=top 52
abbrev Gn:Stmt:=top 53
abbrev Gh:Stmt:=top 51
def atM {zs:z0t}{m:Int}(h:(zs.length:Int)=m)(hm:0 < m) (n:Int):∃z∈zs,pK (148) (n % m)=some (.str z):=by
 subst h;have h1:=Int.emod_lt_of_pos n hm;have h2:=Int.emod_nonneg n (show (zs.length:Int)≠0 by omega);have l:(n % (zs.length:Int)).toNat < zs.length:=by omega
 have e:n % (zs.length:Int)=(((n % (zs.length:Int)).toNat:Nat):Int):=by omega
 refine⟨zs[(n % (zs.length:Int)).toNat],vZ l,?_⟩;have t:pK (148) (((n % (zs.length:Int)).toNat:Nat):Int)=some (.str zs[(n % (zs.length:Int)).toNat]):=cK (by rw [a0,df l];rfl);rw [<-e] at t;exact t
def yJ {α:Type}(i:Nat)(x y z:α):α:=match i with | 0=>x | 1=>y | _=>z
def RT {H:Hp}{L1 L2 L3 LL:Addr}{xs ys zs:List V}(h1:H L1=none)(h2:upd H L1 (.lst xs) L2=none)(h3:upd (upd H L1 (.lst xs)) L2 (.lst ys) L3=none)
  (h4:upd (upd (upd H L1 (.lst xs)) L2 (.lst ys)) L3 (.lst zs) LL=none):aD H (upd (upd (upd (upd H L1 (.lst xs)) L2 (.lst ys)) L3 (.lst zs)) LL (.lst [.ref L1,.ref L2,.ref L3]))/\∀i:Nat,i < 3->∃Li,pK [V.ref L1,V.ref L2,V.ref L3] (i:Int)=some (.ref Li)/\H Li=none /\
   upd (upd (upd (upd H L1 (.lst xs)) L2 (.lst ys)) L3 (.lst zs)) LL (.lst [.ref L1,.ref L2,.ref L3]) Li=some (.lst (yJ i xs ys zs)):=by
 have s1:=af h1 (.lst xs);have s2:=af h2 (.lst ys);have s3:=af h3 (.lst zs);have s4:=af h4 (.lst [.ref L1,.ref L2,.ref L3]);refine⟨s1.trans (s2.trans (s3.trans s4)),λi hi=>?_⟩
 match i,hi with
 | 0,_=>exact⟨L1,rfl,h1,s4 _ _ (s3 _ _ (s2 _ _ ae))⟩
 | 1,_=>exact⟨L2,rfl,s1.free h2,s4 _ _ (s3 _ _ ae)⟩
 | 2,_=>exact⟨L3,rfl,s1.free (s2.free h3),s4 _ _ ae⟩
def CU (i:Nat):z0t:=yJ i ["s","t","u","w","v"] ["b","aa","k","bb","e"] ["a","ab","n","d","aba"]
def UG (i:Nat):z0t:=yJ i ["a","b","c"] ["ab","a","c"] ["b","+","ba"]
def KR (i:Nat):yJ i [V.str "s",V.str "t",V.str "u",V.str "w",V.str "v"] [V.str "b",V.str "aa",V.str "k",V.str "bb",V.str "e"] [V.str "a",V.str "ab",V.str "n",V.str "d",V.str "aba"]=(CU i).map V.str:=by
 match i with
 | 0=>rfl
 | 1=>rfl
 | _+2=>rfl
def JW (i:Nat):yJ i [V.str "a",V.str "b",V.str "c"] [V.str "ab",V.str "a",V.str "c"] [V.str "b",V.str "+",V.str "ba"]=(UG i).map V.str:=by
 match i with
 | 0=>rfl
 | 1=>rfl
 | _+2=>rfl
def Oe (i:Nat):(CU i).length=5:=by
 match i with
 | 0=>rfl
 | 1=>rfl
 | _+2=>rfl
def Nh (i:Nat):(UG i).length=3:=by
 match i with
 | 0=>rfl
 | 1=>rfl
 | _+2=>rfl
def HR (i:Nat):∀z∈CU i,z.length<=3:=by
 match i with
 | 0=>decide +kernel
 | 1=>decide +kernel
 | n+2=>exact(by decide +kernel:∀z∈CU 2,z.length<=3)
def DO {j:Nat}(h:j < 3):(xq "y" j).length<=2:=by
 match j,h with
 | 0,_=>decide +kernel
 | 1,_=>decide +kernel
 | 2,_=>decide +kernel
section
def cellAt (ns:z0u) (k:Nat):Int:=(ns[k]?).getD 0
def wV (K:bp):Sp:=λvs H Q _=>∃(a:Addr)(ns:z0u) (k:Nat),vs=[.ref a,.int (k:Int)]/\aI K H a (ns.map V.int)/\ns.length<=1000/\∀n:Int,n=cellAt ns k->Q (.int n) H
def Ny:aK ["_law_script","_law_k"] ["_law_script","_law_k"] (ay Gr):=152
def KN (F:ir K "_law_cell_at" "_law_cell_at" Gr f fd)(T:Txt mg):bR P w K mg base fK 1 f fd ["_law_script","_law_k"] (wV K):=by
 refine F.ok Ny 157 161
 .obtain⟨a,ns,k,rfl,_⟩:=h;rfl
 obtain⟨a,ns,k,rfl,hS,hn,q⟩:=h;refine⟨_,ai (cq (a_ lV (pv 1) (aP aU rfl T.len ff (ab (pv 0) ak)) (cx _)) (ao (br (ba cU (pv 0) (pv 1) 137))) a7) (ao (br av)),?_⟩;refine⟨_,rfl,_,rfl,a,_,rfl,.inl hS,_,_,rfl,rfl,_,rfl,?_⟩;refine cf (λcc=>?_) (λcc=>q 0 ?_)
 rotate_left
 .have ge:¬((k:Int) < ((ns.map V.int).length:Int)):=λz=>cc (cE z);rw [au] at ge;unfold cellAt;rw [ke ∅];rfl
 have lt:=cW cc;rw [au] at lt;have lt':k < ns.length:=by omega
 refine⟨_,rfl,_,rfl,a,_,_,.int ns[k],rfl,rfl,hS,cK (by rw [a0,df lt'];rfl),q _ (by unfold cellAt;rw [df lt'];rfl)⟩
def rZ:Sp:=λvs H Q _=>∃(c:Int) (m:Nat)(S:Addr) (zs:z0t),vs=[.int c,.int (m:Int),.ref S]/\m<=100/\H S=some (.lst (148))/\0 < zs.length/\zs.length<=1000/\∀(p:Addr) (ps:z0t)(H':Hp),aD H H'->H' p=some (.tup (ps.map V.str))->ps.length=m->(∀x∈ps,x∈zs)->Q (.ref p) H'
def jr:aK ["_law_cell","_law_many","_law_some","_law_parts_here","_law_seed","_law_k"] ["_law_cell","_law_many","_law_some"] (ay xm):=152
def Eb (F:ir K "_law_digits" "_law_digits" xm f fd)(T:Txt mg):bR P w K mg base fK 1 f fd ["_law_cell","_law_many","_law_some"] rZ:=by
 refine F.ok jr 157 161
 .obtain⟨c,m,S,zs,rfl,_⟩:=h;rfl
 obtain⟨c,m,S,zs,rfl,hm,hS,Vd,hz1,q⟩:=h;refine⟨_,ai (az (i:=3) jr.nd rfl 84 (bM ak))
  (ai (az (i:=4) jr.nd rfl 84 (aQ dw (aQ du (pv 0) av) av))
  (ai (bJ bV rfl (ib rfl T.Fl (ab (pv 1) ak)) (aq (i:=5) jr.nd rfl 84)
   (ao (cq (a_ Hf (pv 0) av (cx _))
    (ai (cT (gX gw ix iz cv (pv 3) (ab (ba cU (pv 2) (aQ du (aQ Hd (pv 0) av) (aP aU rfl T.len ff (ab (pv 2) ak))) 137) ak)))
    (ao (az (i:=0) jr.nd rfl 84 (aQ c_ (aQ Hd (pv 0) av) (aP aU rfl T.len ff (ab (pv 2) ak))))))
    (ai (az (i:=4) jr.nd rfl 84 (aQ du (aQ He (pv 4) av) av))
    (ao (cT (gX gw ix iz cv (pv 3) (ab (ba cU (pv 2) (aQ du (aQ c_ (pv 4) av) (aP aU rfl T.len ff (ab (pv 2) ak))) 137) ak))))))))
  (ao (br (bL jc rfl T.tup Ak (ab (pv 3) ak)))))),?_⟩
 have Sh:(0:Int) < (zs.length:Int):=by omega
 refine⟨uo,λL hL=>?_⟩;have hS1:=af hL 132 _ _ hS;have nS:S≠L:=λz=>by rw [z,hL] at hS;cases hS
 refine⟨_,rfl,_,_,rfl,rfl,(by show (0:Int) < 2147483647;decide),_,_,rfl,rfl,?_⟩;refine⟨_,rfl,(m:Int),rfl,∅,∅,?_⟩;rw [ji m];refine jC (n:=m) (λi σ H2=>∃(c2 c4:Int)(k2:Option V) (ps:z0t),σ=[some (.int c2),some (.int (m:Int)),aE S,aE L,some (.int c4),k2]/\H2=upd H L (.lst (ps.map V.str))/\ps.length=i/\∀x∈ps,x∈zs) ⟨c,_,none,[],rfl,rfl,rfl,λ_ h=>(by cases h)⟩ ?_ ?_
 .rintro i σ H2 hi ⟨c2,c4,k2,ps,rfl,rfl,hp,MI⟩;have eS:upd H L (.lst (ps.map V.str)) S=some (.lst (148)):=by rw [aj nS];exact hS
  refine goN ?_;refine⟨_,rfl,_,_,rfl,rfl,_,rfl,?_⟩;refine cf (λ_=>?_) (λ_=>?_)
  .obtain⟨z,Sg,ez⟩:=atM (zs:=zs) rfl Sh (c2 - 1);refine⟨_,rfl,.inl ⟨rfl,_,aI.of ae⟩,_,rfl,_,rfl,_,_,rfl,rfl,_,rfl,S,_,rfl,.inl (aI.of eS),_,_,rfl,rfl,(by rw [au];exact Sh),?_⟩;rw [au];refine⟨S,_,_,_,rfl,rfl,aI.of eS,ez,L,_,_,rfl,rfl,ae,176,?_⟩;rw [nu];have eS2:upd H L (.lst (ps.map V.str++[.str z])) S=some (.lst (148)):=by rw [aj nS];exact hS
   refine⟨_,rfl,_,_,rfl,rfl,_,rfl,S,_,rfl,.inl (aI.of eS2),_,_,rfl,rfl,(by rw [au];exact⟨Sh,by show (zs.length:Int) < 1073741824;omega⟩),?_⟩;rw [au];exact⟨_,_,_,ps++[z],rfl,by rw [bj];rfl,by rw [a8,hp];rfl,λx hx=>(bO.mp hx).elim (MI x) λh=>(bA.mp h) ▸ Sg⟩
  refine⟨_,rfl,_,_,rfl,rfl,.inr ⟨nofun,nofun⟩,_,_,rfl,rfl,(by show (0:Int) < 2147483647;decide),?_⟩;obtain⟨z,Sg,ez⟩:=atM (zs:=zs) rfl Sh (c4 * 48271 % 2147483647 / 3);refine⟨_,rfl,.inl ⟨rfl,_,aI.of ae⟩,_,rfl,_,rfl,_,_,rfl,rfl,⟨nofun,nofun⟩,_,rfl,S,_,rfl,.inl (aI.of eS),_,_,rfl,rfl,(by rw [au];exact Sh),?_⟩;rw [au];refine⟨S,_,_,_,rfl,rfl,aI.of eS,ez,L,_,_,rfl,rfl,ae,176,?_⟩;rw [nu];exact⟨_,_,_,ps++[z],rfl,by rw [bj];rfl,by rw [a8,hp];rfl,λx hx=>(bO.mp hx).elim (MI x) λh=>(bA.mp h) ▸ Sg⟩
 rintro σ H2 ⟨c2,c4,k2,ps,rfl,rfl,hp,MI⟩;refine⟨_,rfl,L,_,rfl,.inl ⟨aI.of ae,λp uz=>?_⟩⟩;exact q p ps _ ((af hL _).trans (af uz _)) ae hp MI
def i3 (c:Int):Nat:=(c / 72 % 3).toNat
def j3 (c:Int):Nat:=(c / 3 % 3).toNat
def MD (c:Int):i3 c < 3/\c / 72 % 3=(i3 c:Int):=by unfold i3;omega
def Sa (c:Int):j3 c < 3/\c / 3 % 3=(j3 c:Int):=by unfold j3;omega
def eY (c:Int):z0t:=UG (i3 c)
def mW (c:Int):(eY c).length=3:=Nh _
def U4 (i j:Nat):z0t:=(CU i).map λz=>z++xq "y" j
def HS {i j:Nat}(hi:i < 3)(hj:j < 3):(U4 i j).Nodup/\∀x∈U4 i j,x∉UG i:=by
 match i,hi,j,hj with
 | 0,_,0,_=>decide +kernel
 | 0,_,1,_=>decide +kernel
 | 0,_,2,_=>decide +kernel
 | 1,_,0,_=>decide +kernel
 | 1,_,1,_=>decide +kernel
 | 1,_,2,_=>decide +kernel
 | 2,_,0,_=>decide +kernel
 | 2,_,1,_=>decide +kernel
 | 2,_,2,_=>decide +kernel
structure PK (c:Int) (cy:z0t):Prop where
 nd:cy.Nodup
 dj:∀x∈cy,x∉eY c
 one:1<=cy.length
 O3:cy.length<=5
def CB:Sp:=λvs H Q _=>∃(c:Int),vs=[.int c]/\∀(N:Addr) (cy:z0t)(H':Hp),H N=none->aD H H'->H' N=some (.lst (cy.map V.str))->PK c cy->Q (.ref N) H'
def qC:aK ["_law_cell","_law_some","_law_many"] ["_law_cell"] (ay AR):=152
def Hn (F:ir K "_law_names" "_law_names" AR f fd)(T:Txt mg):bR P w K mg base fK 1 f fd ["_law_cell"] CB:=by
 refine F.ok qC 157 161
 .obtain⟨c,rfl,_⟩:=h;rfl
 obtain⟨c,rfl,q⟩:=h;refine⟨_,@ai _ _ _ _ _ (@az _ _ 1 _ _ _ _ qC.nd rfl 84 (@ba _ _ _ _ _ _ _ cU (@bM _ _ _ _ (@ab _ _ _ _ _ (@bM _ _ _ _ (@ab _ _ _ _ _ (@cM _ _ _ _) (@ab _ _ _ _ _ (@cM _ _ _ _) 219 rfl) rfl)) (@ab _ _ _ _ _ (@bM _ _ _ _ (@ab _ _ _ _ _ (@cM _ _ _ _) (@ab _ _ _ _ _ (@cM _ _ _ _) 219 rfl) rfl)) (@ab _ _ _ _ _ (@bM _ _ _ _ (@ab _ _ _ _ _ (@cM _ _ _ _) (@ab _ _ _ _ _ (@cM _ _ _ _) 219 rfl) rfl)) (@ak _) rfl) rfl) rfl)) (aQ du (aQ c_ (pv 0) av) av) 137) rfl (.inr rfl))
  (ai (az (i:=2) qC.nd rfl 84 (aQ dw av (aQ du (pv 0) av)))
  (ai (ie (cq (a_ kR (aQ du (aQ c_ (pv 0) av) av) av (cx _)) (ao (az (i:=2) qC.nd rfl 84 av)) a7))
  (ao (br (aV ["_law_name"] [(0,"_law_cell")] rfl (aR (dW wY (pv 1) gW (eU (pv 2)))) (aS rfl rfl) nofun rfl nofun
   (λ_ _ _ _ _=>aq (i:=0) (show (["_law_name","_law_cell"]:z0t).Nodup by decide +kernel) rfl 84) 177
   (λ_ _ _ _ _=>aQ A_ (pv 0) (aQ Kx cM (aQ du (aQ c_ (pv 1) av) av)))))))),?_⟩
 obtain⟨hi,ei⟩:=MD c;obtain⟨hj,ej⟩:=Sa c;refine⟨Wf,λL1 h1=>⟨Wf,λL2 h2=>⟨Wf,λL3 h3=>⟨Jt,λLL Y7=>?_⟩⟩⟩⟩;obtain⟨s1,p1⟩:=RT h1 h2 h3 Y7;obtain⟨Li,a1,f1,e1⟩:=p1 (i3 c) hi;rw [KR] at e1;refine⟨_,rfl,_,_,rfl,rfl,⟨nofun,nofun⟩,_,_,rfl,rfl,(by show (0:Int) < 3;decide),?_⟩;refine⟨LL,_,(i3 c:Int),.ref Li,rfl,congrArg V.int ei,aI.of ae,a1,?_⟩;generalize upd (upd (upd (upd H L1 _) L2 _) L3 _) LL _=H1 at s1 e1;refine⟨_,rfl,_,_,rfl,rfl,(by show (0:Int) < 3;decide),_,_,rfl,rfl,?_⟩;refine⟨λσ H2=>∃m:Nat,1<=m/\m<=5/\σ=[some (.int c),aE Li,some (.int (m:Int))]/\H1=H2,?_,?_⟩
 .obtain⟨m,Qf,Qe,em⟩:∃m:Nat,1<=m/\m<=5/\1+c % 3=(m:Int):=⟨(1+c % 3).toNat,∅,∅,∅⟩;refine⟨_,rfl,_,_,rfl,rfl,⟨nofun,nofun⟩,_,_,rfl,rfl,(by show (0:Int) < 8;decide),rfl,_,rfl,?_⟩;refine cf (λ_=>?_) (λ_=>?_)
  .exact⟨5,nofun,nofun,rfl,rfl⟩
  exact⟨m,Qf,Qe,by show [some (V.int c),some (V.ref Li),some (V.int (1+c % 3))]=_;rw [em],rfl⟩
 rintro σ H1' ⟨m,Qf,Qe,rfl,rfl⟩;refine⟨_,rfl,_,rfl,_,rfl,Li,_,rfl,aI.of e1,λM hM=>?_⟩;have cut:g8 ((CU (i3 c)).map V.str) none (some (m:Int))=((CU (i3 c)).take m).map V.str:=by
  unfold g8;rw [show HT.fM ((CU (i3 c)).map V.str).length 0 none=0 from rfl,HT.lF,rf,Nat.sub_zero,mq,<-List.take_eq_take_min]
 rw [cut];have lt5:((CU (i3 c)).take m).length=m:=by rw [dJ,Oe];omega
 have Vh:∀z∈(CU (i3 c)).take m,z.length<=3:=λz hz=>HR (i3 c) z (uN hz);have uk:(((CU (i3 c)).take m).map λz=>z++xq "y" (j3 c)).Nodup/\∀x∈((CU (i3 c)).take m).map λz=>z++xq "y" (j3 c),x∉eY c:=by
  have e:(((CU (i3 c)).take m).map λz=>z++xq "y" (j3 c))=(U4 (i3 c) (j3 c)).take m:=by unfold U4;rw [mq]
  rw [e];exact⟨(HS hi hj).1.sublist (List.take_sublist _ _),λx hx=>(HS hi hj).2 x (uN hx)⟩
 generalize (CU (i3 c)).take m=zs at lt5 Vh uk;have s2:=s1.trans (af hM (.lst (148)));have eM:upd H1 M (.lst (148)) M=some (.lst (148)):=ae;generalize upd H1 M (.lst (148))=H2 at s2 eM;refine⟨M,rfl,⟨_,aI.of eM⟩,λD hD=>bT (xs:=148) (λk ys σ2 H3=>ys=((zs.map λz=>z++xq "y" (j3 c)).take k).map V.str/\(∃y0,σ2=[y0,some (.int c)])/\aD H2 H3/\H3 D=some (.lst ys))
    ⟨rfl,⟨none,rfl⟩,af hD _,ae⟩ (λk ys σ2 H3 _ h=>?_) (λk x ys σ2 H3 ex h=>?_) (λys σ2 H3 h=>?_)⟩
 .obtain⟨_,_,sm,_⟩:=h;exact aI.of (sm _ _ eM)
 .obtain⟨rfl,⟨y0,rfl⟩,sm,eD⟩:=h;have lk:=(bw.mp ex).1;rw [au] at lk;rw [a0] at ex;obtain⟨z,ez,rfl⟩:=b0.mp ex;have hz:=Vh z (cC ez);have hy:=DO hj;refine goN (vq ?_);refine⟨_,rfl,_,rfl,_,_,rfl,rfl,⟨nofun,nofun⟩,_,_,rfl,rfl,(by show (0:Int) < 3;decide),?_⟩;have ly:("y":Str).length=1:=by decide +kernel
  refine⟨"y",j3 c,rfl,congrArg V.int ej,∅,ly,_,_,rfl,rfl,fits ∅,?_⟩;refine⟨eD,bB (by rw [au,dJ];omega),?_,⟨_,rfl⟩,λb o hb=>?_,ae⟩
  .have:(zs.map λz=>z++xq "y" (j3 c))[k]?=some (z++xq "y" (j3 c)):=by rw [a0,ez];rfl
   rw [cO,this,bj];rfl
  rw [203];exact sm b o hb
 obtain⟨rfl,_,sm,eD⟩:=h;rw [rJ (by rw [au,au];exact aG _)] at eD;exact q D _ _ (s2.free hD) (s2.trans sm) eD ⟨uk.1,uk.2,151,151⟩
def yx:Sp:=λvs H Q _=>∃(c:Int),vs=[.int c]/\∀(N:Addr)(H':Hp),H N=none->aD H H'->H' N=some (.lst ((eY c).map V.str))->Q (.ref N) H'
def Ge:aK ["_law_cell"] ["_law_cell"] (ay w_):=152
def DY (F:ir K "_law_words" "_law_words" w_ f fd)(T:Txt mg):bR P w K mg base fK 1 f fd ["_law_cell"] yx:=by
 refine F.ok Ge 157 161
 .obtain⟨c,rfl,_⟩:=h;rfl
 obtain⟨c,rfl,q⟩:=h;refine⟨_,ao (br (@ba _ _ _ _ _ _ _ cU (@bM _ _ _ _ (@ab _ _ _ _ _ (@bM _ _ _ _ 219) (@ab _ _ _ _ _ (@bM _ _ _ _ 219) (@ab _ _ _ _ _ (@bM _ _ _ _ 219) (@ak _) rfl) rfl) rfl)) (aQ du (aQ c_ (pv 0) av) av) 137)),?_⟩;obtain⟨hi,ei⟩:=MD c;refine⟨Jt,λL1 h1=>⟨Jt,λL2 h2=>⟨Jt,λL3 h3=>⟨Jt,λLL Y7=>?_⟩⟩⟩⟩;obtain⟨s1,p1⟩:=RT h1 h2 h3 Y7;obtain⟨Li,a1,f1,e1⟩:=p1 (i3 c) hi;rw [JW] at e1;refine⟨_,rfl,_,_,rfl,rfl,⟨nofun,nofun⟩,_,_,rfl,rfl,(by show (0:Int) < 3;decide),?_⟩;refine⟨LL,_,(i3 c:Int),.ref Li,rfl,congrArg V.int ei,aI.of ae,a1,?_⟩;exact q Li _ f1 s1 e1
def FY (K:bp):Sp:=λvs H Q _=>∃(S N W:Addr)(ns:z0u) (at_ m:Nat) (cy ws:z0t),vs=[.ref S,.int (at_:Int),.ref N,.int (m:Int),.ref W]/\aI K H S (ns.map V.int)/\ns.length<=1000/\H N=some (.lst (cy.map V.str))/\H W=some (.lst (ws.map V.str))/\0 < cy.length/\cy.length<=5/\ws.length<=10/\m<=10 /\
 ∀(R:Addr)(rs:z0q)(aa:83)(H':Hp),H R=none->aD H H'->H' R=some (.lst 146)->bK K H' rs aa->aa.length=m->(∀ru∈aa,ru.1∈cy/\ru.2.length<=6/\∀x∈ru.2,x∈cy++ws)->Q (.ref R) H'
def mE:aK ["_law_script","_law_at","_law_names_here","_law_many","_law_words_here","_law_rules","_law_some","_law_k","_law_cell","_law_size"] ["_law_script","_law_at","_law_names_here","_law_many","_law_words_here"] (ay Gk):=152
def KD (F:ir K "_law_more" "_law_more" Gk f fd)(T:Txt mg)(GC:aF P w K mg base 1 "_law_cell_at" ["_law_script","_law_k"] (wV K))(GD:aF P w K mg base 1 "_law_digits" ["_law_cell","_law_many","_law_some"] rZ):bR P w K mg base fK 2 f fd ["_law_script","_law_at","_law_names_here","_law_many","_law_words_here"] (FY K):=by
 refine F.ok mE 157 161
 .obtain⟨S,N,W,ns,at_,m,cy,ws,rfl,_⟩:=h;rfl
 obtain⟨S,N,W,ns,at_,m,cy,ws,rfl,hS,hn,hN,hW,Vk,hn1,hw1,hm,q⟩:=h;refine⟨_,ai (az (i:=5) mE.nd rfl 84 (bM ak))
  (ai (az (i:=6) mE.nd rfl 84 (aQ jb (pv 2) (pv 4)))
  (ai (bJ bV rfl (ib rfl T.Fl (ab (pv 3) ak)) (aq (i:=7) mE.nd rfl 84)
   (ai (az (i:=8) mE.nd rfl 84 (bu GC hr rfl (ab (pv 0) (ab (aQ dw (pv 1) (pv 7)) ak))))
   (ai (az (i:=9) mE.nd rfl 84 (aQ du (aQ c_ (pv 8) av) av))
   (ai (ie (cq (PW.pt (mH (a_ kR (pv 7) av (cx _)) (jO (a_ kR (aQ du (aQ c_ (pv 8) av) av) av (cx _))))) (ao (az (i:=9) mE.nd rfl 84 (aQ dw av (aQ du (aQ c_ (pv 8) av) av)))) a7))
   (ao (cT (gX gw ix iz cv (pv 5) (ab (bW (ab (ba cU (pv 2) (aQ du (aQ du (pv 8) av) (aP aU rfl T.len ff (ab (pv 2) ak))) 137)
    (ab (bu GD hr rfl (ab (aQ c_ (pv 8) av) (ab (pv 9) (ab (pv 6) ak)))) ak))) ak))))))))
  (ao (br (pv 5))))),?_⟩
 refine⟨uo,λL hL=>?_⟩;have s1:=af hL 132;have e1:upd H L 132 L=some 132:=ae;generalize upd H L 132=H1 at s1 e1;refine⟨_,rfl,_,rfl,N,W,_,_,rfl,rfl,s1 _ _ hN,s1 _ _ hW,fits (by rw [au,au];omega),λM hM=>?_⟩;rw [<-bj];have k2:=af hM (.lst ((cy++ws).map V.str));have s2:=s1.trans k2;have e2:=k2 _ _ e1;have m2:upd H1 M (.lst ((cy++ws).map V.str)) M=some (.lst ((cy++ws).map V.str)):=ae;have nM:M≠L:=λz=>by rw [z,e1] at hM;cases hM
 generalize upd H1 M (.lst ((cy++ws).map V.str))=H2 at k2 s2 e2 m2;refine⟨_,rfl,(m:Int),rfl,∅,∅,?_⟩;rw [ji m];refine jC (n:=m) (λi σ H3=>∃(rs:z0q)(aa:83)(y7 y8 y9:Option V),σ=[aE S,some (.int (at_:Int)),aE N,some (.int (m:Int)),aE W,aE L,aE M,y7,y8,y9]/\aD H H3/\H3 L=some (.lst 146)/\H3 M=some (.lst ((cy++ws).map V.str))/\bK K H3 rs aa/\aa.length=i/\∀ru∈aa,ru.1∈cy/\ru.2.length<=6/\∀x∈ru.2,x∈cy++ws) ⟨[],[],none,none,none,rfl,s2,e2,m2,.nil,rfl,λ_ h=>by cases h⟩ ?_ ?_
 .rintro i σ H3 hi ⟨rs,aa,y7,y8,y9,rfl,s3,eL,eM,rl,hl,hf⟩;have lr:=bc rl;refine goN ?_;refine⟨_,rfl,_,rfl,_,rfl,_,_,rfl,rfl,?_⟩;refine⟨S,ns,at_+i,(by show [V.ref S,V.int ((at_:Int)+(0+(i:Int)))]=_;congr 3;push_cast;omega),s3.seq hS,hn,λc _=>?_⟩;have hni:(0:Int) < (cy.length:Int):=by omega
  obtain⟨z,Sg,ez⟩:=atM (zs:=cy) rfl hni (c % 5);refine⟨_,rfl,_,_,rfl,rfl,⟨nofun,nofun⟩,_,_,rfl,rfl,(by show (0:Int) < 4;decide),?_⟩;refine⟨λσ H4=>∃d:Nat,d<=6/\H3=H4/\σ=[aE S,some (.int (at_:Int)),aE N,some (.int (m:Int)),aE W,aE L,aE M,some (.int (0+(i:Int))),some (.int c),some (.int (d:Int))],?_,?_⟩
  .obtain⟨d,hd,C9⟩:∃d:Nat,c / 5 % 4=(d:Int)/\d<=6:=⟨(c / 5 % 4).toNat,∅,∅⟩;have no:∃d:Nat,d<=6/\H3=H3/\[some (V.ref S),some (.int (at_:Int)),aE N,some (.int (m:Int)),aE W,aE L,aE M,some (.int (0+(i:Int))),some (.int c),some (.int (c / 5 % 4))]=[some (V.ref S),some (.int (at_:Int)),aE N,some (.int (m:Int)),aE W,aE L,aE M,some (.int (0+(i:Int))),some (.int c),some (.int (d:Int))]:=⟨d,C9,rfl,by rw [hd]⟩;refine⟨_,rfl,rfl,_,rfl,?_⟩;refine cf (λ_=>?_) (λ_=>no);refine⟨_,rfl,_,_,rfl,rfl,⟨nofun,nofun⟩,_,_,rfl,rfl,(by show (0:Int) < 8;decide),rfl,_,rfl,?_⟩;refine cf (λ_=>?_) (λ_=>no);obtain⟨e,he,he6⟩:∃e:Nat,4+c / 160 % 3=(e:Int)/\e<=6:=⟨(4+c / 160 % 3).toNat,∅,∅⟩;refine⟨_,rfl,_,_,rfl,rfl,⟨nofun,nofun⟩,_,_,rfl,rfl,(by show (0:Int) < 3;decide),_,_,rfl,rfl,?_⟩;exact⟨e,he6,rfl,by rw [<-he];rfl⟩
  rintro σ H3' ⟨d,hd6,rfl,rfl⟩;refine⟨_,rfl,.inl ⟨rfl,_,aI.of eL⟩,_,rfl,_,rfl,_,_,rfl,rfl,(by show (0:Int) < 5;decide),_,rfl,N,_,rfl,.inl (aI.of (s3 _ _ hN)),_,_,rfl,rfl,(by rw [au];exact hni),?_⟩;rw [au];refine⟨N,_,_,_,rfl,rfl,aI.of (s3 _ _ hN),ez,?_⟩;refine⟨_,rfl,_,_,rfl,rfl,⟨nofun,nofun⟩,_,rfl,_,rfl,?_⟩;refine⟨_,d,M,cy++ws,rfl,∅,eM,by rw [a8];omega,by rw [a8];omega,λp ps H4 s4 e4 l4 MI=>⟨qi,λR hR=>?_⟩⟩;have k5:=s4.trans (af hR (.tup [.str z,.ref p]));have v1:aY K (upd H4 R (.tup [.str z,.ref p])) R [.str z,.ref p]:=aY.of ae;have v2:aY K (upd H4 R (.tup [.str z,.ref p])) p (ps.map V.str):=(af hR _).tup (aY.of e4);generalize upd H4 R (.tup [.str z,.ref p])=H5 at k5 v1 v2;have B3:=k5 _ _ eL;refine⟨L,_,_,rfl,rfl,B3,176,?_⟩;refine⟨rs++[R],aa++[(z,ps)],_,_,_,rfl,λb o hb=>?_,by rw [ae,bj];rfl,by rw [aj nM];exact k5 _ _ eM,gk (rl.keep λb xs z=>bz B3 (k5.tup z)) ⟨p,bz B3 v1,bz B3 v2⟩,by rw [a8,hl];rfl,λru iq=>?_⟩
  .rw [aj (λz=>by rw [z,hL] at hb;cases hb)];exact k5 _ _ (s3 b o hb)
  rcases bO.mp iq with h | h
  .exact hf ru h
  rw [bA.mp h];exact⟨Sg,by show ps.length<=6;omega,MI⟩
 rintro σ H3 ⟨rs,aa,y7,y8,y9,rfl,s3,eL,eM,rl,hl,hf⟩;exact⟨_,rfl,q L rs aa H3 hL s3 eL rl hl hf⟩
def x_ (ns ws:z0t) (a:Nat) (cZ:z0t):Prop :=
 (∃n' wx,ns[a+1]?=some n'/\wx≠[]/\(∀x∈wx,x∈ws)/\wx.length<=2/\(cZ=wx++[n']\/cZ=n'::wx))\/(ns.length<=a+1/\(∀x∈cZ,x∈ws)/\cZ.length<=2)
def IZ (l:z0t)(n:Str):g8 ((l++[n]).map V.str) (some (-1)) none=[V.str n]:=by
 unfold g8;have h1:HT.fM ((l++[n]).map V.str).length 0 (some (-1))=l.length:=by
  rw [au,a8,fO];show (if (-1:Int) < 0 then ((-1:Int)+((l.length+1:Nat):Int)).toNat else min (-1:Int).toNat (l.length+1))=l.length;rw [aw nofun];omega
 rw [h1,HT.nV,<-List.map_drop,List.drop_append_of_le_length (aG _),List.drop_length,mw];rw [au,a8,fO,show l.length+1 - l.length=1 by omega];rfl
def I0 (l:z0t)(n:Str):g8 ((l++[n]).map V.str) none (some (-1))=l.map V.str:=by
 unfold g8;have h1:HT.fM ((l++[n]).map V.str).length ((l++[n]).map V.str).length (some (-1))=l.length:=by
  rw [au,a8,fO];show (if (-1:Int) < 0 then ((-1:Int)+((l.length+1:Nat):Int)).toNat else min (-1:Int).toNat (l.length+1))=l.length;rw [aw nofun];omega
 rw [h1,HT.nV,rf,Nat.sub_zero,<-mq,qY (aG _),cw]
def FX (K:bp):Sp:=λvs H Q _=>∃(S N W:Addr)(ns:z0u) (at_:Nat) (cy ws:z0t),vs=[.ref S,.int (at_:Int),.ref N,.ref W]/\aI K H S (ns.map V.int)/\ns.length<=1000/\H N=some (.lst (cy.map V.str))/\H W=some (.lst (ws.map V.str))/\0 < cy.length/\cy.length<=5/\0 < ws.length/\ws.length<=10 /\
 ∀(R:Addr)(rs:z0q)(aa:83)(H':Hp),H R=none->aD H H'->H' R=some (.lst 146)->bK K H' rs aa->aa.length=cy.length->(∀(j:Nat)(ru:ax),aa[j]?=some ru->cy[j]?=some ru.1/\x_ cy ws j ru.2)->Q (.ref R) H'
def mD:aK ["_law_script","_law_at","_law_names_here","_law_words_here","_law_rules","_law_k","_law_cell","_law_parts_here"] ["_law_script","_law_at","_law_names_here","_law_words_here"] (ay Gi):=152
def KA (F:ir K "_law_skeleton" "_law_skeleton" Gi f fd)(T:Txt mg)(GC:aF P w K mg base 1 "_law_cell_at" ["_law_script","_law_k"] (wV K))(GD:aF P w K mg base 1 "_law_digits" ["_law_cell","_law_many","_law_some"] rZ):bR P w K mg base fK 2 f fd ["_law_script","_law_at","_law_names_here","_law_words_here"] (FX K):=by
 refine F.ok mD 157 161
 .obtain⟨S,N,W,ns,at_,cy,ws,rfl,_⟩:=h;rfl
 obtain⟨S,N,W,ns,at_,cy,ws,rfl,hS,hn,hN,hW,Vk,hn1,hw0,hw1,q⟩:=h;refine⟨_,ai (az (i:=4) mD.nd rfl 84 (bM ak))
  (ai (bJ bV rfl (ib rfl T.Fl (ab (aP aU rfl T.len ff (ab (pv 2) ak)) ak)) (aq (i:=5) mD.nd rfl 84)
   (ai (az (i:=6) mD.nd rfl 84 (bu GC hr rfl (ab (pv 0) (ab (aQ dw (pv 1) (pv 5)) ak))))
   (ai (az (i:=7) mD.nd rfl 84 (bu GD hr rfl (ab (aQ c_ (pv 6) av) (ab (aQ du (pv 6) av) (ab (pv 3) ak)))))
   (ai (ie (cq (a_ lV (aQ dw (pv 5) av) (aP aU rfl T.len ff (ab (pv 2) ak)) (cx _))
    (ai (az (i:=7) mD.nd rfl 84 (aQ qF (bu GD hr rfl (ab (aQ c_ (pv 6) av) (ab (aQ dw av (aQ du (pv 6) av)) (ab (pv 3) ak)))) (bW (ab (ba cU (pv 2) (aQ dw (pv 5) av) 137) ak))))
    (ao (cq (a_ kR (aQ du (aQ c_ (pv 6) av) av) av (cx _))
     (ao (az (i:=7) mD.nd rfl 84 (aQ qF (dW iY (pv 7) (eU (yK rQ av)) gW) (dW iY (pv 7) gW (eU (yK rQ av)))))) a7))) a7))
   (ao (cT (gX gw ix iz cv (pv 4) (ab (bW (ab (ba cU (pv 2) (pv 5) 137) (ab (pv 7) ak))) ak))))))))
  (ao (br (pv 4)))),?_⟩
 nofun
 refine⟨uo,λL hL=>?_⟩;have s1:=af hL 132;have e1:upd H L 132 L=some 132:=ae;generalize upd H L 132=H1 at s1 e1;refine⟨_,rfl,N,_,rfl,.inl (aI.of (s1 _ _ hN)),((cy.map V.str).length:Int),rfl,151,151,?_⟩;rw [au,ji];refine jC (n:=cy.length) (λi σ H3=>∃(rs:z0q)(aa:83)(y5 y6 y7:Option V),σ=[aE S,some (.int (at_:Int)),aE N,aE W,aE L,y5,y6,y7]/\aD H H3/\H3 L=some (.lst 146)/\bK K H3 rs aa/\aa.length=i/\∀(j:Nat)(ru:ax),aa[j]?=some ru->cy[j]?=some ru.1/\x_ cy ws j ru.2) ⟨[],[],none,none,none,rfl,s1,e1,.nil,rfl,λj ru e=>by cases e⟩ ?_ ?_
 .intro i σ H3 hi mU
  ac_nf0
  obtain⟨rs,aa,y5,y6,y7,rfl,s3,eL,rl,hl,hf⟩:=mU;have lr:=bc rl;obtain⟨nm,uk⟩:∃nm,cy[i]?=some nm:=⟨cy[i],df hi⟩;have atn:pK (cy.map V.str) (0+(i:Int))=some (.str nm):=by
   rw [i8];exact cK (by rw [a0,uk];rfl)
  refine goN ?_
  ac_rfl
  refine⟨_,rfl,_,rfl,_,rfl,_,_,rfl,rfl,?_⟩;refine⟨S,ns,at_+i,(by show [V.ref S,V.int ((at_:Int)+(0+(i:Int)))]=_;congr 3;push_cast;omega),s3.seq hS,hn,λc _=>?_⟩;obtain⟨d,hd⟩:∃d:Nat,c % 3=(d:Int):=⟨(c % 3).toNat,∅⟩;refine⟨_,rfl,_,_,rfl,rfl,⟨nofun,nofun⟩,_,rfl,_,_,rfl,rfl,(by show (0:Int) < 3;decide),_,rfl,?_⟩;refine⟨_,d,W,ws,(by show [_,V.int (c % 3),_]=_;rw [hd]),∅,s3 _ _ hW,hw0,∅,λp ps H4 s4 e4 l4 MI=>?_⟩;have yG:=s3.trans s4;have Qs:=s4 _ _ eL;have UY:=rl.same s4;refine⟨λσ H5=>∃(p5:Addr) (cZ:z0t),σ=[aE S,some (.int (at_:Int)),aE N,aE W,aE L,some (.int (0+(i:Int))),some (.int c),aE p5]/\aD H4 H5/\aY K H5 p5 (cZ.map V.str)/\x_ cy ws i cZ,?_,?_⟩
  .refine⟨_,rfl,_,_,rfl,rfl,_,rfl,N,_,rfl,.inl (aI.of (yG _ _ hN)),_,_,rfl,rfl,_,rfl,?_⟩;refine cf (λcc=>?_) (λcc=>?_)
   .have lt:=cW cc;rw [au] at lt;have lt':i+1 < cy.length:=by omega
    obtain⟨n',C4⟩:∃n',cy[i+1]?=some n':=⟨cy[i+1],df lt'⟩;have aao:pK (cy.map V.str) (0+(i:Int)+1)=some (.str n'):=by
     rw [i8,show (i:Int)+1=((i+1:Nat):Int) by push_cast;rfl];exact cK (by rw [a0,C4];rfl)
    obtain⟨d2,hd2⟩:∃d2:Nat,1+c % 2=(d2:Int):=⟨(1+c % 2).toNat,∅⟩;refine⟨_,rfl,_,_,rfl,rfl,⟨nofun,nofun⟩,_,rfl,_,_,rfl,rfl,(by show (0:Int) < 2;decide),_,_,rfl,rfl,_,rfl,?_⟩;refine⟨_,d2,W,ws,(by show [_,V.int (1+c % 2),_]=_;rw [hd2]),∅,yG _ _ hW,hw0,∅,λp6 wx H6 s6 e6 l6 hwx=>?_⟩;have Mf:=yG.trans s6;refine⟨_,rfl,_,rfl,_,_,rfl,rfl,N,_,_,_,rfl,rfl,aI.of (Mf _ _ hN),aao,Fg,λu hu=>?_⟩;have k7:=af hu (.tup [V.str n']);refine⟨p6,u,_,_,rfl,rfl,k7.tup (aY.of e6),aY.of ae,(by rw [au];show wx.length+1<=sizeLine;exact fits ∅),λp8 H8 s8 e8=>?_⟩;have Z5:aY K H8 p8 ((wx++[n']).map V.str):=by rw [bj];exact e8
    have Gu:=s6.trans (k7.trans s8);have UE:wx≠[]:=λz=>by rw [z] at l6;simp at l6;omega
    refine⟨_,rfl,_,_,rfl,rfl,⟨nofun,nofun⟩,_,_,rfl,rfl,(by show (0:Int) < 2;decide),rfl,_,rfl,?_⟩;refine cf (λc2=>?_) (λc2=>?_)
    .refine⟨_,rfl,_,rfl,_,rfl,p8,_,rfl,Z5,λp9 H9 s9 e9=>?_⟩;rw [IZ] at e9;refine⟨_,rfl,_,rfl,_,rfl,p8,_,rfl,s9.tup Z5,λpA HA sA eA=>?_⟩;rw [I0] at eA;refine⟨p9,pA,_,_,rfl,rfl,sA.tup e9,eA,(by rw [au];show 1+wx.length<=sizeLine;exact fits ∅),λpB HB sB eB=>?_⟩;exact⟨pB,n'::wx,rfl,Gu.trans (s9.trans (sA.trans sB)),eB,.inl ⟨n',wx,C4,UE,hwx,∅,.inr rfl⟩⟩
    exact⟨p8,wx++[n'],rfl,Gu,Z5,.inl ⟨n',wx,C4,UE,hwx,∅,.inl rfl⟩⟩
   have ge:¬(0+(i:Int)+1 < ((cy.map V.str).length:Int)):=λz=>cc (cE z);rw [au] at ge;exact⟨p,ps,rfl,aD.refl _,aY.of e4,.inr ⟨∅,MI,∅⟩⟩
  rintro σ H5 ⟨p5,cZ,rfl,s5,e5,sk⟩;have CL:=yG.trans s5;have B3:=s5 _ _ Qs;refine⟨_,rfl,.inl ⟨rfl,_,aI.of B3⟩,_,rfl,_,rfl,N,_,_,_,rfl,rfl,aI.of (CL _ _ hN),atn,_,rfl,qi,λR hR=>?_⟩;have k6:=af hR (.tup [.str nm,.ref p5]);have v1:aY K (upd H5 R (.tup [.str nm,.ref p5])) R [.str nm,.ref p5]:=aY.of ae;have v2:=k6.tup e5;generalize upd H5 R (.tup [.str nm,.ref p5])=H6 at k6 v1 v2;have VQ:=k6 _ _ B3;refine⟨L,_,_,rfl,rfl,VQ,176,?_⟩;refine⟨rs++[R],aa++[(nm,cZ)],_,_,_,rfl,λb o hb=>?_,by rw [ae,bj];rfl,gk ((UY.same (s5.trans k6)).keep λb xs z=>bz VQ z) ⟨p5,bz VQ v1,bz VQ v2⟩,by rw [a8,hl];rfl,λj ru e=>?_⟩
  .rw [aj (λz=>by rw [z,hL] at hb;cases hb)];exact k6 _ _ (CL b o hb)
  by_cases cj:j < aa.length
  .rw [nq cj] at e;exact hf j ru e
  have lj:=(bw.mp e).1;rw [a8,fO] at lj;have ej:j=aa.length:=by omega
  subst ej;rw [lR (aG _),oG] at e;cases e;rw [hl];exact⟨uk,sk⟩
 rintro σ H3 ⟨rs,aa,y5,y6,y7,rfl,s3,eL,rl,hl,hf⟩;exact⟨_,rfl,q L rs aa H3 hL s3 eL rl hl hf⟩
end
end g9
namespace L2
open PySem
def ja {X:Cx}(K:bp)(hK:X.K=K:=by rfl):ng X (compareOp .NotIn) (U0 K true):=by
 subst hK;exact iA
def dG (h:Str) (zs:z0t):Oy (.str h) (148)=decide (h∈zs):=by
 have:Oy (.str h) (148)=true↔h∈zs:=by
  unfold Oy;rw [List.any_eq_true];constructor
  .rintro⟨x,h1,h2⟩;obtain⟨z,hz,rfl⟩:=bY.mp h1;have:z=h:=by simpa [vA] using h2
   rw [<-this];exact hz
  intro hm;exact⟨.str h,bY.mpr ⟨h,hm,rfl⟩,by simp [vA]⟩
 by_cases c:h∈zs
 .rw [cE c];exact this.mpr c
 rw [fg c];cases e:Oy (.str h) (148) with
 | false=>rfl
 | true=>exact absurd (this.mp e) c
def bZ (zs:z0t):(148).all jE=true:=by
 rw [eG];intro x hx;obtain⟨z,_,rfl⟩:=bY.mp hx;rfl
section
variable {K:bp}{H:Hp}{p D:Addr}{zs:z0t}{σ:St}{x:Str}{js:z0j}{te:TE}{Qp:Hp->Prop}
def gH (rest:St)(pr:Str->Bool)(hc:dO [x] js σ=none::rest)(hp:aY K H p (148))(hz:zs.length<=1000)(hD:H D=none)
  (Sj:∀z∈zs,∀(H':Hp)(Qy:VK),aD H H'->Qy (.bl (pr z)) H'->te (some (.str z)::rest) H' Qy)
  (q:∀H2,aD H H2->H2 D=some (.lst ((zs.map pr).map V.bl))->Qp H2) :
  ∃W:183,(∃m,W 0 m [] (dO [x] js σ) 179) /\
 ∀i m ys σ' H,W i m ys σ' H->((oy K p).stop i H/\Qp H)\/((oy K p).go i H/\∃m',m' < m/\∀x H',(oy K p).lS i H x H'->dD 0 x σ' H' λσ2 H2=>hV σ2 H2 λb H3 =>
  if b=true then te σ2 H3 182 else W (i+1) m' ys σ2 H3):=by
 refine gI (xs:=148) (λi ys σ2 H2=>ys=((zs.take i).map pr).map V.bl/\(∃y0,σ2=y0::rest)/\aD H H2/\H2 D=some (.lst ys))
  ⟨rfl,⟨none,hc⟩,af hD _,ae⟩ (λi ys σ2 H2 _ h=>?_) (λi v ys σ2 H2 ex h=>?_) (λys σ2 H2 h=>?_)
 .obtain⟨_,_,sm,_⟩:=h;exact sm.tup hp
 .obtain⟨rfl,⟨y0,rfl⟩,sm,hd⟩:=h;rw [a0] at ex;obtain⟨z,ez,rfl⟩:=b0.mp ex;have li:=(bw.mp ez).1;refine goN (vq (Sj z (cC ez) _ _ sm ⟨hd,bB (by rw [au,au,dJ];omega),?_,⟨_,rfl⟩,λb o hb=>?_,ae⟩))
  .rw [cO,ez,bj,bj];rfl
  rw [203];exact sm b o hb
 obtain⟨rfl,_,sm,hd⟩:=h;rw [au,cw] at hd;exact q H2 sm hd
def qc (rest:St)(pr:Str->Bool)(hc:dO [x] js σ=none::rest)(hp:aI K H p (148))(hz:zs.length<=1000)(hD:H D=none)
  (Sj:∀z∈zs,∀(H':Hp)(Qy:VK),aD H H'->Qy (.bl (pr z)) H'->te (some (.str z)::rest) H' Qy)
  (q:∀H2,aD H H2->H2 D=some (.lst ((zs.map pr).map V.bl))->Qp H2) :
  ∃W:183,(∃m,W 0 m [] (dO [x] js σ) 179) /\
 ∀i m ys σ' H,W i m ys σ' H->((jG K p).stop i H/\Qp H)\/((jG K p).go i H/\∃m',m' < m/\∀x H',(jG K p).lS i H x H'->dD 0 x σ' H' λσ2 H2=>hV σ2 H2 λb H3 =>
  if b=true then te σ2 H3 182 else W (i+1) m' ys σ2 H3):=by
 refine bT (xs:=148) (λi ys σ2 H2=>ys=((zs.take i).map pr).map V.bl/\(∃y0,σ2=y0::rest)/\aD H H2/\H2 D=some (.lst ys))
  ⟨rfl,⟨none,hc⟩,af hD _,ae⟩ (λi ys σ2 H2 _ h=>?_) (λi v ys σ2 H2 ex h=>?_) (λys σ2 H2 h=>?_)
 .obtain⟨_,_,sm,_⟩:=h;exact sm.seq hp
 .obtain⟨rfl,⟨y0,rfl⟩,sm,hd⟩:=h;rw [a0] at ex;obtain⟨z,ez,rfl⟩:=b0.mp ex;have li:=(bw.mp ez).1;refine goN (vq (Sj z (cC ez) _ _ sm ⟨hd,bB (by rw [au,au,dJ];omega),?_,⟨_,rfl⟩,λb o hb=>?_,ae⟩))
  .rw [cO,ez,bj,bj];rfl
  rw [203];exact sm b o hb
 obtain⟨rfl,_,sm,hd⟩:=h;rw [au,cw] at hd;exact q H2 sm hd
end
theorem all_map (zs:z0t)(pr:Str->Bool):(zs.map pr).all id=zs.all pr:=by
 rw [List.all_map];rfl
end L2
namespace g9
open PySem M11
abbrev hm (aa:83):z0t:=aa.map 82
structure Small (aa:83):Prop where
 one:1<=aa.length
 most:aa.length<=32
 qO:∀ru∈aa,ru.2.length<=6
open PySem L2 M11
section
def iU {H:Hp}{R D:Addr}{rs:z0q}{aa:83}{σ:St}{Qp:Hp->Prop}(hR:aI K H R 146)(cI:bK K H rs aa)(bN:aa.length<=1000)(hD:H D=none)
  (q:∀H2,aD H H2->H2 D=some (.lst ((hm aa).map V.str))->Qp H2) :
  ∃W:183,(∃m,W 0 m [] (dO ["_law_head","_law_parts_here"] [] σ) 179) /\
 ∀i m ys σ' H,W i m ys σ' H->((jG K R).stop i H/\Qp H)\/((jG K R).go i H/\∃m',m' < m/\∀x H',(jG K R).lS i H x H'->zq K 2 (iT (dD 0) (iT (dD 1) BN)) x σ' H' λσ2 H2=>hV σ2 H2 λb H3 =>
  if b=true then gK 0 σ2 H3 182 else W (i+1) m' ys σ2 H3):=by
 have ll:=bc cI;refine bT (xs:=138) (λi ys σ2 H2=>ys=((hm aa).take i).map V.str/\(∃y0 y1,σ2=[y0,y1])/\aD H H2/\H2 D=some (.lst ys))
  ⟨rfl,⟨none,none,rfl⟩,af hD _,ae⟩ (λi ys σ2 H2 _ h=>?_) (λi x ys σ2 H2 ex h=>?_) (λys σ2 H2 h=>?_)
 .obtain⟨_,_,sm,_⟩:=h;exact sm.seq hR
 .obtain⟨rfl,⟨y0,y1,rfl⟩,sm,MM⟩:=h;rw [a0] at ex;obtain⟨r,er,rfl⟩:=b0.mp ex;obtain⟨ru,e1,p,v1,v2⟩:=cI.get er;have li:=(bw.mp e1).1;refine⟨r,_,rfl,sm.tup v1,rfl,_,_,rfl,_,_,rfl,rfl,?_⟩;refine vq ?_;refine⟨_,rfl,MM,bB (by rw [au,dJ];omega),?_,⟨_,_,rfl⟩,λb o hb=>?_,ae⟩
  .have:(hm aa)[i]?=some ru.1:=by unfold hm;rw [a0,e1];rfl
   rw [cO,this,bj];rfl
  rw [203];exact sm b o hb
 obtain⟨rfl,_,sm,MM⟩:=h;rw [au,ll,rJ (by unfold hm;rw [au];exact aG _)] at MM;exact q H2 sm MM
def qB (K:bp):Sp:=λvs H Q _=>∃(R:Addr)(rs:z0q)(aa:83)(b:Bool),vs=[.ref R,.bl b]/\aI K H R 146/\bK K H rs aa/\Small aa /\
 ∀(D:Addr)(H':Hp),H D=none->aD H H'->H' D=some (.lst ((bS b aa).map V.str))->(bS b aa).length<=64->Q (.ref D) H'
abbrev NE:z0t:=["_law_rules","_law_words_here","_law_head","_law_parts_here","_law_heads","_law_ended_here","_law_again","_law_good_here"]
def jN:aK NE ["_law_rules","_law_words_here"] (ay AV):=152
def Hv (F:ir K "_law_ended" "_law_ended" AV f fd)(T:Txt mg):bR P w K mg base fK 1 f fd ["_law_rules","_law_words_here"] (qB K):=by
 refine F.ok jN 157 161
 .obtain⟨R,rs,aa,b,rfl,_⟩:=h;rfl
 obtain⟨R,rs,aa,b,rfl,hR,cI,qo,q⟩:=h;have Ym:=qo.one;have So:=qo.most;refine⟨_,ai (az (i:=4) jN.nd rfl (Or.inr rfl) (aV ["_law_head","_law_parts_here"] [] rfl (aR (pv 0)) (aS rfl rfl) nofun rfl nofun
   221 177
   (λ_ _ _ _ _=>pv 0)))
  (ai (az (i:=5) jN.nd rfl (Or.inr rfl) (bM ak))
  (ai (bJ bV rfl (aR (pv 0)) (aq (i:=6) jN.nd rfl 84)
   (ao (bJ bV rfl (aR (pv 0)) (dF (n:=2) K rfl (aB (aq (i:=2) jN.nd rfl 84) (aB (aq (i:=3) jN.nd rfl 84) bH)))
    (ai (az (i:=7) jN.nd rfl 84 (aP (dX rfl) rfl T.all boot_all (ab
      (aV ["_law_part"] [(5,"_law_ended_here"),(4,"_law_heads"),(1,"_law_words_here")] rfl (eV (pv 3)) (aS rfl rfl) nofun rfl nofun
       (λ_ _ _ _ _=>aq (i:=0) (show (["_law_part","_law_ended_here","_law_heads","_law_words_here"]:z0t).Nodup by decide +kernel) rfl 84) 177
       (λ_ _ _ _ _=>Ml (fJ (dQ K) (pv 0) (pv 1) rfl) (o8 (sH (pv 3) (o8 (fJ (ja K) (pv 0) (pv 2) rfl)))))) ak)))
    (ao (cq (PW.pt (mH (gS (pv 7)) (jO (a_ iA (pv 2) (pv 5) rfl))))
     (ao (cT (gX gw ix iz cv (pv 5) (ab (pv 2) ak)))) a7))))))
  (ao (br (pv 5))))),?_⟩
 nofun
 refine⟨_,rfl,R,rfl,⟨_,hR⟩,λD hD=>iU hR cI ∅ hD λH1 s1 eD=>?_⟩;refine goN ?_
 ac_rfl
 refine⟨uo,λL hL=>?_⟩;have s2:=s1.trans (af hL 132);have ou:=af hL 132 _ _ eD;have nL:L≠D:=λz=>by rw [z,eD] at hL;cases hL
 have fL:H L=none:=s1.free hL;have e2:upd H1 L 132 L=some 132:=ae;generalize upd H1 L 132=H2 at s2 ou e2;refine goN ?_
 ac_rfl
 have ll:=bc cI
 let yd:t_:=λi σ H3=>∃(es:z0t)(y2 y3 y6 y7:Option V),σ=[aE R,some (.bl b),y2,y3,aE D,aE L,y6,y7]/\aD H H3/\H3 D=some (.lst ((hm aa).map V.str))/\H3 L=some (.lst (es.map V.str))/\es=passes (λe=>hX b (hm aa) e aa) i []/\es.length<=32 * i
 refine⟨_,rfl,R,rfl,⟨_,s2.seq hR⟩,bP (xs:=138) yd ⟨[],_,_,_,_,rfl,s2,ou,e2,rfl,85⟩ ?_ ?_ ?_⟩
 .rintro i σ H3 _ ⟨es,y2,y3,y6,y7,rfl,s3,_⟩;exact s3.seq hR
 .intro i x σ H3 ex mU
  ac_nf0
  obtain⟨es,y2,y3,y6,y7,rfl,s3,uF,ZR,he,SS⟩:=mU;have li:=(bw.mp ex).1;rw [au] at li;refine goN ?_
  ac_nf
  let E9:t_:=λj σ H4=>∃(xO:z0t)(y2 y3 y7:Option V),σ=[aE R,some (.bl b),y2,y3,aE D,aE L,some x,y7]/\aD H H4/\H4 D=some (.lst ((hm aa).map V.str))/\H4 L=some (.lst (xO.map V.str))/\xO=hX b (hm aa) es (aa.take j)/\xO.length<=32 * i+j
  refine⟨_,rfl,R,rfl,⟨_,s3.seq hR⟩,bP (xs:=138) E9 ⟨es,_,_,_,rfl,s3,uF,ZR,rfl,∅⟩ ?_ ?_ ?_⟩
  .rintro j σ H4 _ ⟨xO,y2,y3,y7,rfl,s4,_⟩;exact s4.seq hR
  .intro j x2 σ H4 iH mU
   ac_nf0
   obtain⟨xO,y2,y3,y7,rfl,s4,Qt,Qs,C6,SR⟩:=mU;have lj:=(bw.mp iH).1;rw [au] at lj;rw [a0] at iH;obtain⟨r,er,rfl⟩:=b0.mp iH;obtain⟨ru,e1,p,v1,v2⟩:=cI.get er;have iq:=qo.qO ru (cC e1);refine⟨r,_,rfl,s4.tup v1,rfl,_,_,rfl,_,_,rfl,rfl,?_⟩;refine⟨_,rfl,p,rfl,⟨_,s4.tup v2⟩,λD2 jI=>gH (zs:=ru.2) [aE L,aE D,some (.bl b)] (λz=>decide (z∈xO) || (b && !decide (z∈hm aa))) rfl (s4.tup v2) ∅ jI (λz _ H5 Qy s5 hq=>?_) λH5 s5 VS=>?_⟩
   .refine⟨_,rfl,_,rfl,L,_,rfl,.inl (aI.of (s5 _ _ Qs)),rfl,bZ _,?_⟩;refine⟨_,rfl,?_⟩;rw [dG];show if decide (z∈xO)=true then _ else _;refine 184
    .rw [c] at hq;exact hq
    have c':decide (z∈xO)=false:=by simpa using c
    rw [c',Bool.false_or] at hq;refine⟨_,rfl,b,rfl,?_⟩;refine cf (λcb=>?_) (λcb=>?_)
    .rw [cb,mn] at hq;refine⟨_,rfl,_,rfl,D,_,rfl,.inl (aI.of (s5 _ _ Qt)),rfl,bZ _,?_⟩;rw [dG];exact hq
    have cb':b=false:=by simpa using cb
    rw [cb',q_] at hq;exact hq
   refine⟨D2,_,rfl,aI.of VS,?_⟩;rw [all_map];refine goN ?_
   ac_rfl
   have u9:=s4.trans s5;have B3:=s5 _ _ Qs;have pe:hX b (hm aa) es (aa.take (j+1))=eO b (hm aa) xO ru:=by
    rw [C6,cO,e1];unfold hX;rw [v_];rfl
   refine⟨_,rfl,_,rfl,?_⟩;refine 184
   .refine⟨_,rfl,_,rfl,L,_,rfl,.inl (aI.of B3),rfl,bZ _,_,rfl,?_⟩;rw [dG];show if (!decide (ru.1∈xO))=true then _ else _;refine cf (λc2=>?_) (λc2=>?_)
    .refine⟨_,rfl,.inl ⟨rfl,_,aI.of B3⟩,_,rfl,L,_,_,rfl,rfl,B3,176,?_⟩;refine⟨xO++[ru.1],_,_,_,rfl,λb o hb=>?_,by rw [aj (d8 nL)];exact s5 _ _ Qt,by rw [ae,bj];rfl,?_,by rw [a8];simp;omega⟩
     .rw [aj (λz=>by rw [z,fL] at hb;cases hb)];exact u9 b o hb
     rw [pe];unfold eO;rw [c,mn,aw c2]
    refine⟨xO,_,_,_,rfl,u9,s5 _ _ Qt,B3,?_,∅⟩;rw [pe];unfold eO;rw [c,mn,ar c2]
   refine⟨xO,_,_,_,rfl,u9,s5 _ _ Qt,B3,?_,∅⟩;rw [pe];unfold eO;rw [ar (λz=>c (jj.mp z).1)]
  rintro σ H4 ⟨xO,y2,y3,y7,rfl,s4,Qt,Qs,C6,SR⟩;rw [au,ll] at SR;rw [au,ll,cw] at C6;exact⟨xO,_,_,_,_,rfl,s4,Qt,Qs,by rw [C6,he];rfl,∅⟩
 rintro σ H3 ⟨es,y2,y3,y6,y7,rfl,s3,uF,ZR,he,SS⟩;rw [au,ll] at he SS;refine⟨_,rfl,?_⟩;have e:bS b aa=es:=he.symm;have l5:=iQ _ _ (ot b aa).nd (ot b aa).sub;rw [au] at l5;exact q L H3 fL s3 (by rw [e];exact ZR) ∅
end
def l_ {aa:83}{x:Str}:x∈hm aa↔x∈hd aa:=by
 constructor
 .intro h;obtain⟨ru,a,b⟩:=bY.mp h;exact b ▸ C8 a
 intro h;obtain⟨ru,a,b⟩:=MK h;exact bY.mpr ⟨ru,a,b⟩
def UB (aa:83)(h:Str) (v:Int):Prop:=∀g,dY M11.bl aa (zr aa) g->iC M11.bl aa g->∃m,g h=some m/\m<=v
def UB.le {aa:83}{h:Str}{v u:Int}(a:UB aa h v)(l:v<=u):UB aa h u:=λg s t=>by
 obtain⟨m,e,k⟩:=a g s t;exact⟨m,e,Int.le_trans k l⟩
def Cj {aa:83}{x:Str}(nn:x∉hd aa){ru:ax}(iq:ru∈aa)(hm:x∈ru.2):UB aa x 0:=λg st _=>by
 refine⟨0,?_,jY _⟩;refine dY.keep (J:=λg=>g x=some 0) (λg P4 j h2 _=>?_) st ?_
 .show dN g P4.1 _ x=some 0;unfold dN;have:x≠P4.1:=λz=>nn (z ▸ C8 h2);rw [ar this];exact j
 show zr aa x=some 0;unfold zr;rw [aw (wH _ _ _ _ (.inr ⟨jh.mpr ⟨ru,iq,hm⟩,nn⟩))]
theorem Cq {f g:Str->Int}:∀(ps:z0t),(∀x∈ps,f x<=g x)->(ps.map f).sum<=(ps.map g).sum
 | [],_=>jY _
 | a::r,h=>by
  have h1:=h a cR;have h2:=Cq r λx hx=>h x (cS _ hx);simp only [cD,lO];omega
def wK {aa:83}{h:Str}{ps:z0t}(hm:(h,ps)∈aa){f:Str->Int}(hf:∀p∈ps,UB aa p (f p)):UB aa h (1+(ps.map f).sum):=λg st se=>by
 have hv:∀p∈ps,∃m,g p=some m/\m<=f p:=λp hp=>hf p hp g st se;have hs:=se _ hm;unfold cX at hs;have a1:k_ g (h,ps)=true:=eG.mpr λp hp=>by obtain⟨m,e1,_⟩:=hv p hp;show (g p).isSome=true;rw [e1];rfl
 have s0:aM g (h,ps)<=1+(ps.map f).sum:=by
  unfold aM;have:=Cq (f:=λp=>(g p).getD 0) (g:=f) ps λp hp=>by obtain⟨m,e1,e2⟩:=hv p hp;show (g p).getD 0<=_;rw [e1];exact e2
  show 1+(ps.map λp=>(g p).getD 0).sum<=_;omega
 rw [a1,mn] at hs;cases gn:g h with
 | none=>rw [show g (h,ps).1=none from gn] at hs;cases hs
 | some m =>
  rw [show g (h,ps).1=some m from gn] at hs;refine⟨m,rfl,?_⟩;have:¬aM g (h,ps) < m:=by simpa [M11.bl] using hs
  omega
def bG (g:G)(z:Str):Int:=(g z).getD 0
def eJ (ns:z0t)(g:G)(ru:ax):G:=if (ru.2.all λp=>decide (p∈ns))=true then dN g ru.1 (if aM g ru > bG g ru.1 then aM g ru else bG g ru.1) else g
def uQ (ns:z0t)(aa:83)(g:G):G:=aa.foldl (eJ ns) g
def wI (ns:z0t)(g:G)(ru:ax)(x:Str):bG (eJ ns g ru) x=if (ru.2.all λp=>decide (p∈ns))=true/\x=ru.1 then (if aM g ru > bG g ru.1 then aM g ru else bG g ru.1) else bG g x:=by
 unfold eJ;by_cases c:(ru.2.all λp=>decide (p∈ns))=true
 .rw [aw c];by_cases e:x=ru.1
  .rw [aw (show (ru.2.all λp=>decide (p∈ns))=true/\x=ru.1 from ⟨c,e⟩)];show (if x=ru.1 then some _ else g x).getD 0=_;rw [aw e];rfl
  rw [ar (show ¬((ru.2.all λp=>decide (p∈ns))=true/\x=ru.1) from λz=>e z.2)];show (if x=ru.1 then some _ else g x).getD 0=_;rw [ar e];rfl
 rw [ar c,ar (show ¬((ru.2.all λp=>decide (p∈ns))=true/\x=ru.1) from λz=>c z.1)]
def FE (ns:z0t)(g:G)(ru:ax)(x:Str):bG g x<=bG (eJ ns g ru) x:=by
 rw [wI]
 split
 .rename_i h
  rw [h.2]
  split <;> omega
 exact jY _
theorem rL (ns:z0t):∀(rs:83)(g:G)(x:Str),bG g x<=bG (rs.foldl (eJ ns) g) x
 | [],_,_=>jY _
 | r::rs,g,x=>Int.le_trans (FE ns g r x) (rL ns rs (eJ ns g r) x)
def yC {g g':G}{ru:ax}(h:∀p∈ru.2,bG g p=bG g' p):aM g ru=aM g' ru:=by
 unfold aM;rw [show (ru.2.map λp=>(g p).getD 0)=ru.2.map λp=>(g' p).getD 0 from rC h]
section
variable {aa:83}{ns cs:z0t}
def PU (aa:83) (ns cs:z0t):Prop:=∀ru∈aa,(∀p∈ru.2,p∈ns)->ru.1∈cs/\∀p∈ru.2,p_ cs p < p_ cs ru.1
def Lk (aa:83) (ns cs:z0t) (k:Nat)(g:G):Prop:=∀ru∈aa,(∀p∈ru.2,p∈ns)->p_ cs ru.1 < k->aM g ru<=bG g ru.1
def PB {ru:ax}(h:(ru.2.all λp=>decide (p∈ns))=true):∀p∈ru.2,p∈ns:=λp hp=>cW (eG.mp h p hp)
def lh {k:Nat}{g:G}{ru:ax}(h:Lk aa ns cs k g)(hr:ru∈aa){x:Str}(hx:p_ cs x < k):bG (eJ ns g ru) x=bG g x:=by
 rw [wI]
 split
 .rename_i c
  have:=h ru hr (PB c.1) (c.2 ▸ hx);rw [ar ∅,c.2]
 rfl
def yq (a:PU aa ns cs){k:Nat}{g:G}{ru:ax}(h:Lk aa ns cs k g)(hr:ru∈aa):Lk aa ns cs k (eJ ns g ru):=λr2 h2 e2 l2=>by
 rw [<-yC (g:=g) λp hp=>(lh h hr (kq ((a r2 h2 e2).2 p hp) l2)).symm,lh h hr l2];exact h r2 h2 e2 l2
theorem rN (a:PU aa ns cs){k:Nat}:∀(rs:83)(g:G),(∀ru∈rs,ru∈aa)->Lk aa ns cs k g->Lk aa ns cs k (rs.foldl (eJ ns) g)/\∀x,p_ cs x < k->bG (rs.foldl (eJ ns) g) x=bG g x
 | [],_,_,h=>⟨h,λ_ _=>rfl⟩
 | r::rs,g,hs,h=>by
  have h1:=yq a h (hs r cR);obtain⟨i1,i2⟩:=rN a rs _ (λru hr=>hs ru (cS _ hr)) h1;exact⟨i1,λx hx=>(i2 x hx).trans (lh h (hs r cR) hx)⟩
theorem rM (a:PU aa ns cs){k:Nat}:∀(rs:83)(g:G),(∀ru∈rs,ru∈aa)->Lk aa ns cs k g->∀ru∈rs,(∀p∈ru.2,p∈ns)->p_ cs ru.1=k->aM (rs.foldl (eJ ns) g) ru<=bG (rs.foldl (eJ ns) g) ru.1
 | [],_,_,_,_,h,_,_=>(by cases h)
 | r::rs,g,hs,h,ru,iq,hp,hk=>by
  have hr:=hs r cR;have h1:=yq a h hr;rcases b8.mp iq with e | e
  .subst e;have ah:=a ru hr hp;have lt:∀p∈ru.2,p_ cs p < k:=λp jT=>hk ▸ ah.2 p jT;obtain⟨_,i2⟩:=rN a rs (eJ ns g ru) (λru hr=>hs ru (cS _ hr)) h1;have e1:aM (List.foldl (eJ ns) g (ru::rs)) ru=aM g ru:=yC λp jT=>(i2 p (lt p jT)).trans (lh h hr (lt p jT));rw [e1];have e2:=rL ns rs (eJ ns g ru) ru.1;have e3:=wI ns g ru ru.1;rw [aw ⟨eG.mpr λp jT=>cE (hp p jT),rfl⟩] at e3;show _<=bG (List.foldl (eJ ns) (eJ ns g ru) rs) ru.1;have e4:aM g ru<=(if aM g ru > bG g ru.1 then aM g ru else bG g ru.1):=by split <;> omega
   omega
  exact rM a rs _ (λru hr=>hs ru (cS _ hr)) h1 ru e hp hk
def FH (a:PU aa ns cs){k:Nat}{g:G}(h:Lk aa ns cs k g):Lk aa ns cs (k+1) (uQ ns aa g):=λru hr hp hk=>by
 by_cases c:p_ cs ru.1 < k
 .exact(rN a aa g (λ_ z=>z) h).1 ru hr hp c
 exact rM a aa g (λ_ z=>z) h ru hr hp ∅
theorem vb (a:PU aa ns cs):∀n,Lk aa ns cs n (passes (uQ ns aa) n λ_=>none)
 | 0=>λ_ _ _ h=>absurd h (mx _)
 | n+1=>FH a (vb a n)
theorem u_ (ns:z0t)(aa:83)(x:Str):∀n,0<=bG (passes (uQ ns aa) n λ_=>none) x
 | 0=>jY _
 | n+1=>Int.le_trans (u_ ns aa x n) (rL ns aa _ x)
def Ih:∀(l:z0t)(x:Str),x∈l->p_ l x < l.length:=λl x h=>(bw.mp (xG l x h)).1
def FI (uj:∀x,Em aa x->x∈ns)(a:PU aa ns cs){n:Nat}(hl:cs.length<=n):ue aa (bG (passes (uQ ns aa) n λ_=>none)) :=
 ⟨λz=>u_ ns aa z n,λru hr hp=>vb a n ru hr (λp jT=>uj p (hp p jT)) (gu (Ih cs ru.1 (a ru hr λp jT=>uj p (hp p jT)).1) hl)⟩
end
def zU (aa:83) (ms:z0t):Prop:=∀(i:Nat)(h:Str),ms[i]?=some h->(∃i_,aa[0]?=some i_/\h=i_.1)\/∃ru∈aa,ru.1∈ms.take i/\h∈ru.2
def Jp (aa:83)(ru:ax) (j:Nat)(z:Str):Prop:=ru.2[j]?=some z/\z∈hm aa/\∀(k:Nat)(y:Str),k≠j->ru.2[k]?=some y->y∈bS false aa
def PlO (aa:83) (cs:z0t):Prop:=∀(i:Nat)(h:Str),cs[i]?=some h->∀ru∈aa,ru.1=h->∀(j:Nat)(z:Str),Jp aa ru j z->z∈cs.take i
structure Dy (aa:83) (ms cs:z0t):Prop where
 mo:zU aa ms
 ma:∀z∈hm aa,z∈ms
 cn:cs.Nodup
 ch:∀x∈cs,x∈hm aa
 co:PlO aa cs
 ca:∀z∈hm aa,z∈cs
 ub:∀z∈hm aa,UB aa z 60
 bd:∃b,ue aa b/\∀h∈hd aa,b h<=60
def HW {aa:83}{M:z0t}(O:zU aa M)(mA:∀h∈hd aa,h∈M):∀i_ ms,aa[0]?=some i_->i_.1∈ms->E8 aa aa.length ms->∀h∈hd aa,h∈ms:=λi_ ms e0 h0 mc=>by
 have key:∀(n i:Nat),i < n->∀h:Str,M[i]?=some h->h∈ms:=by
  intro n
  induction n with
  | zero=>intro i hi;omega
  | succ n ih =>
   intro i hi h e;rcases O i h e with ⟨r0,e1,e2⟩ | ⟨ru,iq,h1,h2⟩
   .rw [e0] at e1;cases e1;rw [e2];exact h0
   obtain⟨j,lj,ej⟩:=wQ h1;exact mc ru (by rw [cw];exact iq) (ih j ∅ _ ej) h h2
 intro h hh;obtain⟨i,hi⟩:=gO (mA h hh);exact key (i+1) i ∅ h hi
def CY {aa:83}{rk:Str->Nat}(h:∀ru∈aa,∀(j:Nat)(z:Str),ru.2[j]?=some z->z∈hd aa->(∀(k:Nat)(y:Str),k≠j->ru.2[k]?=some y->Em aa y)->rk z < rk ru.1):Cf aa rk:=by
 rintro aL emp mX n k j ⟨i_,z0,e1,e2,e3,e4,e5⟩ ru z er ez;rw [er] at e1;obtain rfl:ru=i_:=hJ e1;rw [ez] at e3;obtain rfl:z=z0:=hJ e3;rw [<-e2];refine h ru (cC er) j z ez e4 λk' y nk ey=>?_;have:=Ia e5 ey nk;exact IQ emp y (cW this)
def Dy.good {aa:83}{ms cs:z0t}(g:Dy aa ms cs):∃rk b,Good aa rk b:=by
 obtain⟨b,hb,hm6⟩:=g.bd;refine⟨p_ cs,b,λgg st se h hh=>?_,HW g.mo λh hh=>g.ma h (l_.mpr hh),CY λru iq j z ez hz SQ=>?_,hb,hm6⟩
 .exact g.ub h (l_.mpr hh) gg st se
 exact sU cs z _ (g.co _ _ (xG cs ru.1 (g.ca _ (iw iq))) ru iq rfl j z ⟨ez,l_.mpr hz,λk y nk ey=>tK (SQ k y nk ey)⟩)
structure Chn (aa:83) (cy ws:z0t):Prop where
 nd:cy.Nodup
 qO:cy.length<=9
 dj:∀x∈cy,x∉ws
 first:∀i_,aa[0]?=some i_->cy[0]?=some i_.1
 Ln:∀ru∈aa,ru.1∈cy
 on:∀(a:Nat)(h:Str),cy[a]?=some h->∃cZ,(h,cZ)∈aa/\((∃n' us vs,cy[a+1]?=some n'/\cZ=us++n'::vs/\(∀p∈us,p∈ws)/\∀p∈vs,p∈ws)\/(cy.length=a+1/\∀p∈cZ,p∈ws))
 sh:∀ru∈aa,(∃p∈ru.2,p∈ws)\/ru.2=[]\/∃n',cy[p_ cy ru.1+1]?=some n'/\ru.2=[n']
theorem Bw:∀{l:z0t},l.Nodup->∀{a:Nat}{x:Str},l[a]?=some x->p_ l x=a
 | y::l,nd,0,x,e=>by
  cases e;unfold p_;rw [aw rfl]
 | y::l,nd,a+1,x,e=>by
  have e':l[a]?=some x:=e;have ne:y≠x:=λz=>(g_.mp nd).1 (z ▸ cC e');unfold p_;rw [ar ne,Bw (g_.mp nd).2 e']
theorem nF {f:Str->Int}:∀(ps:z0t),(∀x∈ps,f x=0)->(ps.map f).sum=0
 | [],_=>rfl
 | a::r,h=>by
  rw [cD,lO,h a cR,nF r λx hx=>h x (cS _ hx)];rfl
def Chn.good {aa:83}{cy ws:z0t}(c:Chn aa cy ws):∃rk b,Good aa rk b:=by
 have hN:∀x,x∈hd aa->x∈cy:=λx hx=>by
  obtain⟨ru,a,b⟩:=MK hx;exact b ▸ c.Ln ru a
 have wN:∀x∈ws,x∉hd aa:=λx hx h=>c.dj x (hN x h) hx;have nEm:∀x∈ws,¬Em aa x:=λx hx h=>wN x hx (Tz h);have ub:∀(n a:Nat)(h:Str),a+n=cy.length->cy[a]?=some h->UB aa h (n:Int):=by
  intro n
  induction n with
  | zero =>
   intro a h l e;have:=(bw.mp e).1;omega
  | succ n ih =>
   intro a h l e;obtain⟨cZ,hm,hp⟩:=c.on a h e;have wd:∀p∈ws,p∈cZ->UB aa p 0:=λp hpw jT=>Cj (wN p hpw) hm jT;rcases hp with ⟨n',us,vs,en,rfl,BE,hvs⟩ | ⟨_,hw⟩
   .have C4:=ih (a+1) n' ∅ en;have ne:∀p∈ws,p≠n':=λp hp z=>c.dj n' (cC en) (z ▸ hp);have h1:=wK hm (f:=λp=>if p=n' then (n:Int) else 0) λp hp=>by
     by_cases cc:p=n'
     .rw [aw cc,cc];exact C4
     rw [ar cc];refine wd p ?_ hp;rcases bO.mp hp with q | q
     .exact BE p q
     rcases b8.mp q with q | q
     .exact absurd q cc
     exact hvs p q
    refine h1.le ?_;rw [bj,List.sum_append,cD,lO,aw rfl,nF us λx hx=>ar (ne x (BE x hx)),nF vs λx hx=>ar (ne x (hvs x hx))];push_cast;omega
   have h1:=wK hm (f:=λ_=>0) λp hp=>wd p (hw p hp) hp;refine h1.le ?_;rw [nF cZ λ_ _=>rfl];push_cast;omega
 refine⟨λx=>cy.length - p_ cy x,λx=>if x∈cy then ((cy.length - p_ cy x:Nat):Int) else 0,λgg st se h hh=>?_,HW (M:=cy) (λi h e=>?_) λh hh=>hN h hh,CY λru iq j z ez hz SQ=>?_,⟨λz=>?_,λru iq SQ=>?_⟩,λh hh=>?_⟩
 .obtain⟨a,e⟩:=gO (hN h hh);have la:=(bw.mp e).1;have:=c.qO;exact((ub (cy.length - a) a h ∅ e).le (show ((cy.length - a:Nat):Int)<=60 by omega)) gg st se
 .match i,e with
  | 0,e =>
   obtain⟨cZ,hm,_⟩:=c.on 0 h e;obtain⟨k,ek⟩:=gO hm;have l0:0 < aa.length:=by have:=(bw.mp ek).1;omega
   refine .inl ⟨aa[0],df l0,?_⟩;have:=c.first _ (df l0);rw [e] at this;exact hJ this
  | i+1,e =>
   have li:=(bw.mp e).1;have e5:cy[i]?=some (cy[i]'∅):=df ∅;obtain⟨cZ,hm,hp⟩:=c.on i _ e5;refine .inr ⟨_,hm,?_,?_⟩
   .refine cC (i:=i) ?_;rw [yj ∅];exact e5
   rcases hp with ⟨n',us,vs,en,rfl,_⟩ | ⟨l,_⟩
   .rw [e] at en;cases en;exact dM _ cR
   omega
 .rcases c.sh ru iq with ⟨p,hp,hw⟩ | h | ⟨n',en,h⟩
  .exfalso;obtain⟨k,ek⟩:=gO hp;by_cases ck:k=j
   .subst ck;rw [ez] at ek;cases ek;exact wN _ hw hz
   exact nEm p hw (SQ k p ck ek)
  .rw [h] at ez;cases ez
  rw [h] at ez;have MT:z=n':=by
   match j,ez with
   | 0,e=>exact(hJ e).symm
   | _+1,e=>cases e
  subst MT;have i1:=Bw c.nd en;have:=(bw.mp en).1;show cy.length - p_ cy z < cy.length - p_ cy ru.1;omega
 .show (0:Int)<=if z∈cy then _ else 0
  split
  .omega
  exact jY _
 .have hn:=c.Ln ru iq;show 1+(ru.2.map λx=>if x∈cy then ((cy.length - p_ cy x:Nat):Int) else 0).sum<=if ru.1∈cy then ((cy.length - p_ cy ru.1:Nat):Int) else 0;rw [aw hn];have li:=Ih cy ru.1 hn;rcases c.sh ru iq with ⟨p,hp,hw⟩ | h | ⟨n',en,h⟩
  .exact absurd (SQ p hp) (nEm p hw)
  .rw [h];show 1+0<=_;omega
  rw [h];have i1:=Bw c.nd en;have:=(bw.mp en).1;rw [cD,lO,aw (cC en),i1];show 1+(_+0)<=_;omega
 show (if h∈cy then ((cy.length - p_ cy h:Nat):Int) else 0)<=60;have:=c.qO
 split
 .omega
 decide
structure DS (hs:z0t)(H5:Hp)(d:Addr)(kvs:87) (ks:z0t)(g:G):Prop where
 hd:H5 d=162
 keys:kvs.map 82=ks.map Sum.inr
 nd:ks.Nodup
 sub:∀x∈ks,x∈hs
 val:∀z,aZ kvs 139=(g z).map V.int
def DS.len {hs:z0t}{H5:Hp}{d:Addr}{kvs:87}{ks:z0t}{g:G}(h:DS hs H5 d kvs ks g):kvs.length<=hs.length:=by
 have h1:=congrArg List.length h.keys;have h2:=iQ ks _ h.nd h.sub;rw [au,au] at h1;omega
def DS.same {hs:z0t}{H5 H6:Hp}{d:Addr}{kvs:87}{ks:z0t}{g:G}(h:DS hs H5 d kvs ks g)(s:aD H5 H6):DS hs H6 d kvs ks g:=⟨s _ _ h.hd,h.keys,h.nd,h.sub,h.val⟩
def DS.other {hs:z0t}{H5:Hp}{d e:Addr}{o:HO}{kvs:87}{ks:z0t}{g:G}(h:DS hs H5 d kvs ks g)(n:d≠e):DS hs (upd H5 e o) d kvs ks g:=⟨by rw [aj n];exact h.hd,h.keys,h.nd,h.sub,h.val⟩
def DS.get {hs:z0t}{H5:Hp}{d:Addr}{kvs:87}{ks:z0t}{g:G}(h:DS hs H5 d kvs ks g)(z:Str):cg H5 d (.str z) ((g z).map V.int):=by
 have:=cg.k (k:=88) h.hd;rw [h.val] at this;exact this
def DS.put {hs:z0t}{H5:Hp}{d:Addr}{kvs:87}{ks:z0t}{g:G}(h:DS hs H5 d kvs ks g){x:Str}(hr:x∈hs) (n:Int) :
  DS hs (upd H5 d (.dK (bQ kvs (Sum.inr x) (.int n)))) d (bQ kvs (Sum.inr x) (.int n)) (gM ks x) (dN g x n):=by
 refine⟨ae,iR h.keys x,qS x h.nd,λy hy=>?_,λz=>?_⟩
 .rcases (jF ks x y).mp hy with z | z
  .exact h.sub y z
  rw [z];exact hr
 rw [rP];unfold dN;by_cases c:z=x
 .rw [aw c,aw (by rw [c])];rfl
 rw [ar c,ar (λe=>c (kn e)),h.val]
def getD_map (o:z0p) (n:Int):(o.map V.int).getD (.int n)=.int (o.getD n):=by cases o <;> rfl
def vK {K:bp}{H:Hp}{p D d:Addr}{zs hs:z0t}{kvs:87}{ks:z0t}{g:G}{σ:St}{js:z0j}{Qp:Hp->Prop}(hσ:dO ["_law_part"] js σ=[none,aE d])(hp:aY K H p (148))(hz:zs.length<=1000)
  (hg:DS hs H d kvs ks g)(hD:H D=none)(q:∀H2,aD H H2->H2 D=some (.lst ((zs.map λz=>(g z).getD 0).map V.int))->Qp H2) :
  ∃W:183,(∃m,W 0 m [] (dO ["_law_part"] js σ) 179) /\
 ∀i m ys σ' H,W i m ys σ' H->((oy K p).stop i H/\Qp H)\/((oy K p).go i H/\∃m',m' < m/\∀x H',(oy K p).lS i H x H'->dD 0 x σ' H' λσ2 H2=>hV σ2 H2 λb H3 =>
  if b=true then FP (gK 1) (gK 0) (tC (.int 0)) σ2 H3 182 else W (i+1) m' ys σ2 H3):=by
 refine gI (xs:=148) (λi ys σ2 H2=>ys=(((zs.take i).map λz=>(g z).getD 0).map V.int)/\(∃y0,σ2=[y0,aE d])/\aD H H2/\H2 D=some (.lst ys))
  ⟨rfl,⟨none,hσ⟩,af hD _,ae⟩ (λi ys σ2 H2 _ h=>h.2.2.1.tup hp) (λi x ys σ2 H2 ex h=>?_) (λys σ2 H2 h=>?_)
 .obtain⟨rfl,⟨y0,rfl⟩,sm,hd2⟩:=h;rw [a0] at ex;obtain⟨z,ez,rfl⟩:=b0.mp ex;have li:=(bw.mp ez).1;refine goN (vq ?_);refine⟨_,rfl,d,rfl,.inl ⟨_,.inl (sm _ _ hg.hd)⟩,_,rfl,_,(hg.same sm).get z,?_⟩;rw [getD_map];refine⟨hd2,bB (by rw [au,au,dJ];omega),?_,⟨_,rfl⟩,?_,ae⟩
  .rw [cO,ez,bj,bj];rfl
  intro b o hb;rw [203];exact sm b o hb
 obtain⟨rfl,_,sm,hd2⟩:=h;rw [au,cw] at hd2;exact q H2 sm hd2
section
def LJ (aa:83)(l:G):Prop:=∀z n,l z=some n->UB aa z n
def FV (K:bp):Sp:=λvs H Q _=>∃(R N:Addr)(rs:z0q)(aa:83) (ns:z0t),vs=[.ref R,.ref N]/\aI K H R 146/\bK K H rs aa/\Small aa/\H N=some (.lst (ns.map V.str))/\ns.length<=1000 /\
 ∀(b:Bool)(H':Hp),aD H H'->(b=true->(∀z∈hm aa,UB aa z 60)/\∀h∈hm aa,bG (passes (uQ ns aa) aa.length λ_=>none) h<=60)->Q (.bl b) H'
abbrev NVs:z0t:=["_law_rules","_law_empty","_law_head","_law_parts_here","_law_heads","_law_greatest","_law_least","_law_again","_law_size"]
def jM:aK NVs ["_law_rules","_law_empty"] (ay Gh):=152
structure PF (K:bp)(aa:83)(H H5:Hp)(D dg dl:Addr)(kg kl:87) (sg sl:z0t)(g l:G):Prop where
 sm:aD H H5
 eD:H5 D=some (.lst ((hm aa).map V.str))
 gs:DS (hm aa) H5 dg kg sg g
 ls:DS (hm aa) H5 dl kl sl l
 lj:LJ aa l
theorem PF.same {aa:83}{H H5 H6:Hp}{D dg dl:Addr}{kg kl:87}{sg sl:z0t}{g l:G}(h:PF K aa H H5 D dg dl kg kl sg sl g l)(s:aD H5 H6):PF K aa H H6 D dg dl kg kl sg sl g l :=
 ⟨h.sm.trans s,s _ _ h.eD,h.gs.same s,h.ls.same s,h.lj⟩
def Kz (F:ir K "_law_not_vast" "_law_not_vast" Gh f fd)(T:Txt mg):bR P w K mg base fK 1 f fd ["_law_rules","_law_empty"] (FV K):=by
 refine F.ok jM 157 161
 .obtain⟨R,N,rs,aa,ns,rfl,_⟩:=h;rfl
 obtain⟨R,N,rs,aa,ns,rfl,hR,cI,qo,hN,hnl,q⟩:=h;have hu:=fY hr;have So:=qo.most;refine⟨_,ai (az (i:=4) jM.nd rfl (Or.inr rfl) (aV ["_law_head","_law_parts_here"] [] rfl (aR (pv 0)) (aS rfl rfl) nofun rfl nofun
   221 177
   (λ_ _ _ _ _=>pv 0)))
  (ai (az (i:=5) jM.nd rfl (Or.inr rfl) fR)
  (ai (az (i:=6) jM.nd rfl (Or.inr rfl) fR)
  (ai (bJ bV rfl (aR (pv 0)) (aq (i:=7) jM.nd rfl 84)
   (ao (bJ bV rfl (aR (pv 0)) (dF (n:=2) K rfl (aB (aq (i:=2) jM.nd rfl 84) (aB (aq (i:=3) jM.nd rfl 84) bH)))
    (ai (ie (cq (gS (aP (dX rfl) rfl T.all boot_all (ab (aV ["_law_part"] [(1,"_law_empty")] rfl (eV (pv 3)) (aS rfl rfl) nofun rfl nofun
       (λ_ _ _ _ _=>aq (i:=0) (show (["_law_part","_law_empty"]:z0t).Nodup by decide +kernel) rfl 84) 177 (λ_ _ _ _ _=>fJ (dQ K) (pv 0) (pv 1) rfl)) ak)))
     (ai (az (i:=8) jM.nd rfl 84 (aQ dw av (aP (lJ rfl) rfl T.sum wy (ab (aV ["_law_part"] [(5,"_law_greatest")] rfl (eV (pv 3)) (aS rfl rfl) nofun rfl nofun
       (λ_ _ _ _ _=>aq (i:=0) (show (["_law_part","_law_greatest"]:z0t).Nodup by decide +kernel) rfl 84) 177 (λ_ _ _ _ _=>iP hu (pv 1) (pv 0) av ⟨rfl,rfl,rfl,rfl⟩)) ak))))
     (ao (fC hu (pv 5) (pv 2) (aP (vL rfl) rfl T.max PyProof.Rows.boot_max (ab (iP hu (pv 5) (pv 2) av ⟨rfl,rfl,rfl,rfl⟩) (ab (pv 8) ak))) rfl))) a7))
    (ao (cq (gS (aP (dX rfl) rfl T.all boot_all (ab (aV ["_law_part"] [(6,"_law_least"),(4,"_law_heads")] rfl (eV (pv 3)) (aS rfl rfl) nofun rfl nofun
       (λ_ _ _ _ _=>aq (i:=0) (show (["_law_part","_law_least","_law_heads"]:z0t).Nodup by decide +kernel) rfl 84) 177
       (λ_ _ _ _ _=>Ml (xw (kQ hu (pv 0) (pv 1))) (o8 (fJ (ja K) (pv 0) (pv 2) rfl)))) ak)))
     (ai (az (i:=8) jM.nd rfl 84 (aQ dw av (aP (lJ rfl) rfl T.sum wy (ab (aV ["_law_part"] [(6,"_law_least")] rfl (eV (pv 3)) (aS rfl rfl) nofun rfl nofun
       (λ_ _ _ _ _=>aq (i:=0) (show (["_law_part","_law_least"]:z0t).Nodup by decide +kernel) rfl 84) 177 (λ_ _ _ _ _=>iP hu (pv 1) (pv 0) av ⟨rfl,rfl,rfl,rfl⟩)) ak))))
     (ao (fC hu (pv 6) (pv 2) (aP (EY rfl) rfl T.min PyProof.Rows.boot_min (ab (iP hu (pv 6) (pv 2) (pv 8) ⟨rfl,rfl,rfl,rfl⟩) (ab (pv 8) ak))) rfl))) a7))))))
  (ao (br (aP (dX rfl) rfl T.all boot_all (ab (aV ["_law_name"] [(5,"_law_greatest"),(6,"_law_least")] rfl (aR (pv 4)) (aS rfl rfl) nofun rfl nofun
    (λ_ _ _ _ _=>aq (i:=0) (show (["_law_name","_law_greatest","_law_least"]:z0t).Nodup by decide +kernel) rfl 84) 177
    (λ_ _ _ _ _=>sH (fJ Mm (iP hu (pv 1) (pv 0) av ⟨rfl,rfl,rfl,rfl⟩) av (cx _)) (o8 (fJ Mm (iP hu (pv 2) (pv 0) av ⟨rfl,rfl,rfl,rfl⟩) av (cx _))))) ak))))))),?_⟩
 have ll:=bc cI;have C7:(hm aa).length=aa.length:=by unfold hm;rw [au]
 refine⟨_,rfl,R,rfl,⟨_,hR⟩,λD hD=>iU hR cI ∅ hD λH1 s1 eD=>?_⟩;refine goN ?_;refine λdg SW=>?_;have k2:=af SW (.dK []);have e2:upd H1 dg (.dK []) dg=some (.dK []):=ae;have fdg:H dg=none:=s1.free SW;have nDg:D≠dg:=λz=>by rw [<-z,eD] at SW;cases SW
 generalize upd H1 dg (.dK [])=H2 at k2 e2;have ou:=k2 _ _ eD;refine λdl C7=>?_;have k3:=af C7 (.dK []);have e3:upd H2 dl (.dK []) dl=some (.dK []):=ae;have fdl:H dl=none:=(s1.trans k2).free C7;have nDl:D≠dl:=λz=>by rw [<-z,ou] at C7;cases C7
 have ngl:dg≠dl:=λz=>by rw [<-z,e2] at C7;cases C7
 generalize upd H2 dl (.dK [])=H3 at k3 e3;have S0:PF K aa H H3 D dg dl [] [] [] [] (λ_=>none) (λ_=>none):=⟨(s1.trans k2).trans k3,k3 _ _ ou,⟨k3 _ _ e2,rfl,gE,λ_ h=>(by cases h),λ_=>rfl⟩,⟨e3,rfl,gE,λ_ h=>(by cases h),λ_=>rfl⟩,λ_ _ h=>(by cases h)⟩;clear k3 e3 k2 e2 ou eD s1 hD SW C7;refine⟨_,rfl,R,rfl,⟨_,S0.sm.seq hR⟩,?_⟩;refine bP (xs:=138) (λi σ H5=>∃(kg kl:87) (sg sl:z0t)(g l:G)(y2 y3 y7 y8:Option V),σ=[aE R,aE N,y2,y3,aE D,aE dg,aE dl,y7,y8]/\PF K aa H H5 D dg dl kg kl sg sl g l/\g=passes (uQ ns aa) i λ_=>none)
  ⟨[],[],[],[],_,_,_,_,_,_,rfl,S0,rfl⟩ ?_ ?_ ?_
 .rintro i σ H5 _ ⟨kg,kl,sg,sl,g,l,y2,y3,y7,y8,rfl,S5,_⟩;exact S5.sm.seq hR
 .rintro i x σ H5 ex ⟨kg,kl,sg,sl,g,l,y2,y3,y7,y8,rfl,S5,IS⟩;refine goN ?_;refine⟨_,rfl,R,rfl,⟨_,S5.sm.seq hR⟩,?_⟩;refine bP (xs:=138) (λj σ H6=>∃(kg kl:87) (sg sl:z0t)(g6 l:G)(y2 y3 y8:Option V),σ=[aE R,aE N,y2,y3,aE D,aE dg,aE dl,some x,y8]/\PF K aa H H6 D dg dl kg kl sg sl g6 l/\g6=(aa.take j).foldl (eJ ns) g)
   ⟨kg,kl,sg,sl,_,_,_,_,_,rfl,S5,rfl⟩ ?_ ?_ ?_
  .rintro j σ H6 _ ⟨kg,kl,sg,sl,g6,l,y2,y3,y8,rfl,S6,_⟩;exact S6.sm.seq hR
  .rintro j x2 σ H6 iH ⟨kg,kl,sg,sl,g6,l,y2,y3,y8,rfl,S6,JK⟩;rw [a0] at iH;obtain⟨r,er,rfl⟩:=b0.mp iH;obtain⟨ru,e1,p,v1,v2⟩:=cI.get er;have iq:=cC e1;have h6r:=qo.qO ru iq;have hh:ru.1∈hm aa:=iw iq;have tk:(aa.take (j+1)).foldl (eJ ns) g=eJ ns g6 ru:=by rw [cO,e1,v_,<-JK];rfl
   refine⟨r,_,rfl,S6.sm.tup v1,rfl,_,_,rfl,_,_,rfl,rfl,?_⟩;refine⟨λσ H7=>∃(kg:87) (sg:z0t)(y8:Option V),σ=[aE R,aE N,some (.str ru.1),aE p,aE D,aE dg,aE dl,some x,y8]/\PF K aa H H7 D dg dl kg kl sg sl (eJ ns g6 ru) l,?_,?_⟩
   .refine⟨_,rfl,p,rfl,⟨_,S6.sm.tup v2⟩,λD9 yi=>gH (zs:=ru.2) [aE N] (λz=>decide (z∈ns)) rfl (S6.sm.tup v2) ∅ yi (λz _ HA Qy sA hq=>?_) λH9 s9 e9=>?_⟩
    .refine⟨_,rfl,_,rfl,N,_,rfl,.inl (aI.of (sA _ _ (S6.sm _ _ hN))),rfl,bZ _,?_⟩;rw [dG];exact hq
    have S9:=S6.same s9;refine⟨D9,_,rfl,aI.of e9,_,rfl,?_⟩;rw [all_map];refine cf (λca=>?_) (λca=>?_)
    .refine⟨_,rfl,p,rfl,⟨_,S9.sm.tup v2⟩,λDA Qj=>vK rfl (S9.sm.tup v2) ∅ S9.gs Qj λHA sA eA=>?_⟩;have SA:=S9.same sA;refine⟨DA,_,rfl,aI.of eA,_,_,rfl,rfl,?_⟩;refine⟨_,rfl,dg,rfl,.inl ⟨_,.inl SA.gs.hd⟩,_,rfl,_,SA.gs.get ru.1,?_⟩;rw [getD_map];refine⟨_,rfl,_,_,rfl,?_⟩;have ln:=SA.gs.len;refine⟨_,rfl,_,rfl,dg,_,rfl,jX.k (k:=Sum.inr ru.1) SA.gs.hd (bB ∅),?_⟩;have ev:eJ ns g6 ru=dN g6 ru.1 (if aM g6 ru > bG g6 ru.1 then aM g6 ru else bG g6 ru.1):=by unfold eJ;rw [aw ca]
     have P1:=SA.gs.put hh (if aM g6 ru > bG g6 ru.1 then aM g6 ru else bG g6 ru.1);rw [<-ev] at P1;refine⟨_,_,_,rfl,⟨λb o hb=>?_,?_,P1,SA.ls.other (d8 ngl),SA.lj⟩⟩
     .rw [aj (λz=>by rw [z,fdg] at hb;cases hb)];exact SA.sm b o hb
     rw [aj nDg];exact SA.eD
    have ev:eJ ns g6 ru=g6:=by unfold eJ;rw [ar ca]
    refine⟨kg,sg,_,rfl,?_⟩;rw [ev];exact S9
   rintro σ H7 ⟨kg,sg,y8,rfl,S7⟩;generalize hg7:eJ ns g6 ru=g7 at *;refine⟨_,rfl,p,rfl,⟨_,S7.sm.tup v2⟩,λD9 yi=>gH (zs:=ru.2) [aE dl,aE D] (λz=>(l z).isSome || !decide (z∈hm aa)) rfl (S7.sm.tup v2) ∅ yi (λz _ HA Qy sA hq=>?_) λH9 s9 e9=>?_⟩
   .refine⟨_,rfl,_,rfl,dl,_,rfl,(S7.ls.same sA).get z,_,rfl,?_⟩;rw [qU];refine 184
    .rw [c,Bool.true_or] at hq;exact hq
    have c':(l z).isSome=false:=by simpa using c
    rw [c',Bool.false_or] at hq;refine⟨_,rfl,_,rfl,D,_,rfl,.inl (aI.of (sA _ _ S7.eD)),rfl,bZ _,?_⟩;rw [dG];exact hq
   have S9:=S7.same s9;refine⟨D9,_,rfl,aI.of e9,_,rfl,?_⟩;rw [all_map];refine cf (λca=>?_) (λca=>?_)
   .refine⟨_,rfl,p,rfl,⟨_,S9.sm.tup v2⟩,λDA Qj=>vK rfl (S9.sm.tup v2) ∅ S9.ls Qj λHA sA eA=>?_⟩;have SA:=S9.same sA;refine⟨DA,_,rfl,aI.of eA,_,_,rfl,rfl,?_⟩;refine⟨_,rfl,dl,rfl,.inl ⟨_,.inl SA.ls.hd⟩,_,rfl,_,rfl,_,SA.ls.get ru.1,?_⟩;rw [getD_map];refine⟨_,rfl,_,_,rfl,?_⟩;have ln:=SA.ls.len;refine⟨_,rfl,_,rfl,dl,_,rfl,jX.k (k:=Sum.inr ru.1) SA.ls.hd (bB ∅),?_⟩;have sz:UB aa ru.1 (aM l ru):=wK (h:=ru.1) (ps:=ru.2) iq (f:=λp=>(l p).getD 0) λp hp=>by
     have:=eG.mp ca p hp;cases el:l p with
     | some n=>exact S7.lj p n el
     | none =>
      rw [el] at this;have nn:p∉hm aa:=by simpa using this
      exact Cj (λz=>nn (l_.mpr z)) iq hp
    refine⟨kg,_,sg,_,_,_,_,_,_,rfl,⟨λb o hb=>?_,?_,SA.gs.other ngl,SA.ls.put hh _,λz n e=>?_⟩,tk.symm⟩
    .rw [aj (λz=>by rw [z,fdl] at hb;cases hb)];exact SA.sm b o hb
    .rw [aj nDl];exact SA.eD
    unfold dN at e;by_cases c:z=ru.1
    .rw [aw c] at e;cases e;rw [c]
     split
     .exact sz
     cases el:l ru.1 with
     | none=>exact sz
     | some n=>exact S7.lj _ n el
    rw [ar c] at e;exact SA.lj z n e
   exact⟨_,_,_,_,_,_,_,_,_,rfl,S9,tk.symm⟩
  rintro σ H6 ⟨kg,kl,sg,sl,g6,l,y2,y3,y8,rfl,S6,JK⟩;refine⟨kg,kl,sg,sl,g6,l,_,_,_,_,rfl,S6,?_⟩;rw [JK,au,ll,cw,IS];rfl
 rintro σ H5 ⟨kg,kl,sg,sl,g,l,y2,y3,y7,y8,rfl,S5,IS⟩;rw [au,ll] at IS;refine⟨_,rfl,D,rfl,⟨_,aI.of S5.eD⟩,λD9 yi=>qc (zs:=hm aa) [aE dg,aE dl] (λz=>decide ((g z).getD 0<=60) && decide ((l z).getD 61<=60)) rfl (aI.of S5.eD) ∅ yi (λz _ HA Qy sA hq=>?_) λH9 s9 e9=>?_⟩
 .have SA:=S5.same sA;refine⟨_,rfl,dg,rfl,.inl ⟨_,.inl SA.gs.hd⟩,_,rfl,_,SA.gs.get z,?_⟩;rw [getD_map];refine⟨_,_,rfl,rfl,_,rfl,?_⟩;refine 184
  .rw [c,mn] at hq;refine⟨_,rfl,dl,rfl,.inl ⟨_,.inl SA.ls.hd⟩,_,rfl,_,SA.ls.get z,?_⟩;rw [getD_map];exact⟨_,_,rfl,rfl,hq⟩
  have c':decide ((g z).getD 0<=60)=false:=by simpa using c
  rw [c',q_] at hq;exact hq
 refine⟨D9,_,rfl,aI.of e9,?_⟩;rw [all_map];refine q _ _ (S5.sm.trans s9) λhb=>⟨λz hz=>?_,λz hz=>?_⟩
 .have:=(jj.mp (eG.mp hb z hz)).2;have h6:=cW this;cases el:l z with
  | none=>rw [el] at h6;exact absurd h6 nofun
  | some n=>rw [el] at h6;exact(S5.lj z n el).le h6
 have:=(jj.mp (eG.mp hb z hz)).1;rw [<-IS];exact cW this
end
def vG (zs:z0t) (j:Nat):g8 (148) none (some (0+(j:Int)))=(zs.take j).map V.str:=by
 rw [i8];unfold g8;rw [HT.nV,HT.lF,rf,Nat.sub_zero,au,mq]
 conv=>rhs;rw [List.take_eq_take_min,au]
def vH (zs:z0t) (j:Nat):g8 (148) (some (0+(j:Int)+1)) none=(zs.drop (j+1)).map V.str:=by
 rw [i8,show (j:Int)+1=((j+1:Nat):Int) by push_cast;rfl];unfold g8;rw [HT.nV,HT.lF,au,List.map_drop];by_cases h:j+1<=zs.length
 .rw [Nat.min_eq_left h,rJ (by rw [mz,au];exact aG _)]
 rw [Nat.min_eq_right ∅,oG,List.take_zero,Ah (151)]
def zU.app {aa:83}{ms zs:z0t}{ru:ax}(h:zU aa ms)(hr:ru∈aa)(h1:ru.1∈ms)(h2:∀z∈zs,z∈ru.2):zU aa (ms++zs):=by
 intro i x hx;by_cases l:i < ms.length
 .rw [nq l] at hx;rcases h i x hx with a | ⟨r,a,b,c⟩
  .exact .inl a
  exact .inr ⟨r,a,by rw [qY ∅];exact b,c⟩
 rw [lR ∅] at hx;refine .inr ⟨ru,hr,?_,h2 x (cC hx)⟩;rw [List.take_append,rJ ∅];exact eI _ h1
def AlO (aa:83)(ri:83)(bq:z0i):Prop:=∀ru∈ri,∀(j:Nat)(z:Str),Jp aa ru j z->(ru.1,z)∈bq
structure QI (aa:83)(bq:z0i) (cs:z0t):Prop where
 cn:cs.Nodup
 ch:∀x∈cs,x∈hm aa
 co:∀(i:Nat)(h:Str),cs[i]?=some h->∀z,(h,z)∈bq->z∈cs.take i
def QI.add {aa:83}{bq:z0i}{cs:z0t}{nm:Str}(h:QI aa bq cs)(n:nm∉cs)(hh:nm∈hm aa)(a:∀z,(nm,z)∈bq->z∈cs):QI aa bq (cs++[nm]):=by
 refine⟨iI.mpr ⟨h.cn,85,λx hx y hy z=>n (by rw [<-bA.mp hy,<-z];exact hx)⟩,λx hx=>?_,λi x hx z hz=>?_⟩
 .rcases bO.mp hx with q | q
  .exact h.ch x q
  rw [bA.mp q];exact hh
 by_cases l:i < cs.length
 .rw [nq l] at hx;rw [qY ∅];exact h.co i x hx z hz
 have li:=(bw.mp hx).1;rw [a8,fO] at li;have:i=cs.length:=by omega
 subst this;rw [lR (aG _),oG] at hx;cases hx;rw [qY (aG _),cw];exact a z hz
section
def F3 (K:bp):Sp:=λvs H Q _=>∃(R:Addr)(rs:z0q)(aa:83),vs=[.ref R]/\aI K H R 146/\bK K H rs aa/\Small aa /\
 ∀(b:Bool)(H':Hp),aD H H'->(b=true->∃ms cs,Dy aa ms cs)->Q (.bl b) H'
abbrev NG:z0t:=["_law_rules","_law_head","_law_parts_here","_law_heads","_law_ended_here","_law_met","_law_again","_law_empty","_law_alone","_law_k","_law_others","_law_settled","_law_name","_law_good_here"]
def fu:aK NG ["_law_rules"] (ay Gp):=152
def KJ (F:ir K "_law_good" "_law_good" Gp f fd)(T:Txt mg)(GE:aF P w K mg base 1 "_law_ended" ["_law_rules","_law_words_here"] (qB K))(GV:aF P w K mg base 1 "_law_not_vast" ["_law_rules","_law_empty"] (FV K)):bR P w K mg base fK 2 f fd ["_law_rules"] (F3 K):=by
 refine F.ok fu 157 161
 .obtain⟨R,rs,aa,rfl,_⟩:=h;rfl
 obtain⟨R,rs,aa,rfl,hR,cI,qo,q⟩:=h;have Ym:=qo.one;have So:=qo.most;refine⟨_,ai (az (i:=3) fu.nd rfl (Or.inr rfl) (aV ["_law_head","_law_parts_here"] [] rfl (aR (pv 0)) (aS rfl rfl) nofun rfl nofun
   221 177
   (λ_ _ _ _ _=>pv 0)))
  (ai (az (i:=4) fu.nd rfl (Or.inr rfl) (bu GE hr rfl (ab (pv 0) (ab fq ak))))
  (ai (az (i:=5) fu.nd rfl (Or.inr rfl) (dW wY (pv 3) gW (eU av)))
  (ai (bJ bV rfl (aR (pv 0)) (aq (i:=6) fu.nd rfl 84)
   (ao (bJ bV rfl (aR (pv 0)) (dF (n:=2) K rfl (aB (aq (i:=1) fu.nd rfl 84) (aB (aq (i:=2) fu.nd rfl 84) bH)))
    (ao (cq (a_ jt (pv 1) (pv 5) rfl)
     (ao (az (i:=5) fu.nd rfl (Or.inr rfl) (aQ jb (pv 5)
      (aV ["_law_part"] [(3,"_law_heads"),(5,"_law_met")] rfl (eV (pv 2)) (aS rfl rfl) nofun rfl nofun
       (λ_ _ _ _ _=>aq (i:=0) (show (["_law_part","_law_heads","_law_met"]:z0t).Nodup by decide +kernel) rfl 84)
       (λ_ _ _ _ _=>gb (PW.pt (mH (a_ (dQ K) (pv 0) (pv 1) rfl) (jO (a_ (ja K) (pv 0) (pv 2) rfl)))))
       (λ_ _ _ _ _=>pv 0))))) a7)))))
  (ai (az (i:=7) fu.nd rfl (Or.inr rfl) (bu GE hr rfl (ab (pv 0) (ab fq ak))))
  (ai (az (i:=8) fu.nd rfl 84 (bM ak))
  (ai (bJ bV rfl (aR (pv 0)) (dF (n:=2) K rfl (aB (aq (i:=1) fu.nd rfl 84) (aB (aq (i:=2) fu.nd rfl 84) bH)))
   (ao (bJ bV rfl (ib rfl T.Fl (ab (aP aU rfl T.len ff (ab (pv 2) ak)) ak)) (aq (i:=9) fu.nd rfl 84)
    (ai (az (i:=10) fu.nd rfl 84 (aQ qF (dW iY (pv 2) gW (eU (pv 9))) (dW iY (pv 2) (eU (aQ dw (pv 9) av)) gW)))
    (ao (cq (PW.pt (mH (a_ jt (ba bE (pv 2) (pv 9) 137) (pv 3) rfl) (jO (gS (aP (dX rfl) rfl T.all boot_all (ab
      (aV ["_law_part"] [(7,"_law_empty")] rfl (eV (pv 10)) (aS rfl rfl) nofun rfl nofun
       (λ_ _ _ _ _=>aq (i:=0) (show (["_law_part","_law_empty"]:z0t).Nodup by decide +kernel) rfl 84) 177
       (λ_ _ _ _ _=>fJ (dQ K) (pv 0) (pv 1) rfl)) ak))))))
     (ao (cT (gX gw ix iz cv (pv 8) (ab (bW (ab (pv 1) (ab (ba bE (pv 2) (pv 9) 137) ak))) ak)))) a7))))))
  (ai (az (i:=11) fu.nd rfl (Or.inr rfl) (bM ak))
  (ai (bJ bV rfl (aR (pv 0)) (aq (i:=6) fu.nd rfl 84)
   (ao (bJ bV rfl (aR (pv 3)) (aq (i:=12) fu.nd rfl (Or.inr rfl))
    (ao (cq (PW.pt (mH (gS (aP (dX rfl) rfl T.all boot_all (ab
      (aV ["_law_head","_law_other"] [(11,"_law_settled"),(12,"_law_name")] rfl (aR (pv 8)) (aS rfl rfl) nofun rfl nofun
       (λ_ _ _ _ _=>dF (n:=2) K rfl (aB (aq (i:=0) (show (["_law_head","_law_other","_law_settled","_law_name"]:z0t).Nodup by decide +kernel) rfl 84) (aB (aq (i:=1) (show (["_law_head","_law_other","_law_settled","_law_name"]:z0t).Nodup by decide +kernel) rfl 84) bH)))
       (λ_ _ _ _ _=>gb (a_ kR (pv 0) (pv 3) (cx _)))
       (λ_ _ _ _ _=>fJ (dQ K) (pv 1) (pv 2) rfl)) ak))) (jO (a_ iA (pv 12) (pv 11) rfl))))
     (ao (cT (gX gw ix iz cv (pv 11) (ab (pv 12) ak)))) a7)))))
  (ai (az (i:=13) fu.nd rfl 84 (aP (dX rfl) rfl T.all boot_all (ab
   (aV ["_law_name"] [(4,"_law_ended_here"),(5,"_law_met"),(11,"_law_settled")] rfl (aR (pv 3)) (aS rfl rfl) nofun rfl nofun
    (λ_ _ _ _ _=>aq (i:=0) (show (["_law_name","_law_ended_here","_law_met","_law_settled"]:z0t).Nodup by decide +kernel) rfl 84) 177
    (λ_ _ _ _ _=>sH (fJ (dQ K) (pv 0) (pv 1) rfl) (sH (fJ (dQ K) (pv 0) (pv 2) rfl) (o8 (fJ (dQ K) (pv 0) (pv 3) rfl))))) ak)))
  (ao (br (sH (pv 13) (o8 (bu GV hr rfl (ab (pv 0) (ab (pv 7) ak)))))))))))))))),?_⟩
 nofun
 have ll:=bc cI;refine⟨_,rfl,R,rfl,⟨_,hR⟩,λD hD=>iU hR cI ∅ hD λH1 s1 eD=>?_⟩;refine goN ?_
 ac_rfl
 refine⟨_,rfl,R,rs,aa,true,rfl,s1.seq hR,cI.same s1,qo,λEn H2 fE s2 eE lE=>?_⟩;refine goN ?_
 ac_rfl
 have Zz:g8 ((hm aa).map V.str) none (some 1)=((hm aa).take 1).map V.str:=vG (hm aa) 1;have C7:(hm aa).length=aa.length:=by unfold hm;rw [au]
 refine⟨_,rfl,_,rfl,D,_,rfl,aI.of (s2 _ _ eD),λM0 hM0=>?_⟩;rw [Zz];have lm0:((hm aa).take 1).length<=1:=by rw [dJ];omega
 have mo0:zU aa ((hm aa).take 1):=λi h e=>by
  have li:=(bw.mp e).1;have:i=0:=by omega
  subst this;rw [yj ∅] at e;rw [a0] at e;obtain⟨r0,e0,rfl⟩:=b0.mp e;exact .inl ⟨r0,e0,rfl⟩
 generalize (hm aa).take 1=m0 at lm0 mo0;have k3:=af hM0 (.lst (m0.map V.str));have s3:=(s1.trans s2).trans k3;have uF:=k3 _ _ (s2 _ _ eD);have ZT:=k3 _ _ eE;have eM3:upd H2 M0 (.lst (m0.map V.str)) M0=some (.lst (m0.map V.str)):=ae;generalize upd H2 M0 (.lst (m0.map V.str))=H3 at k3 s3 uF ZT eM3;refine goN ?_
 ac_rfl
 let yd:t_:=λi σ H4=>∃(M:Addr) (ms:z0t)(y1 y2 y6:Option V),σ=[aE R,y1,y2,aE D,aE En,aE M,y6,none,none,none,none,none,none,none]/\aD H3 H4/\H4 M=some (.lst (ms.map V.str))/\ms.length<=8+200 * i/\zU aa ms
 refine⟨_,rfl,R,rfl,⟨_,s3.seq hR⟩,bP (xs:=138) yd ⟨M0,m0,_,_,_,rfl,λ_ _ h=>h,eM3,∅,mo0⟩ ?_ ?_ ?_⟩
 .rintro i σ H4 _ ⟨M,ms,y1,y2,y6,rfl,s4,_⟩;exact s4.seq (s3.seq hR)
 .intro i x σ H4 ex mU
  ac_nf0
  obtain⟨M,ms,y1,y2,y6,rfl,s4,eM,lM,mO⟩:=mU;have li:=(bw.mp ex).1;rw [au] at li;refine goN ?_
  ac_nf
  let E9:t_:=λj σ H5=>∃(M:Addr) (ms:z0t)(y1 y2:Option V),σ=[aE R,y1,y2,aE D,aE En,aE M,some x,none,none,none,none,none,none,none]/\aD H3 H5/\H5 M=some (.lst (ms.map V.str))/\ms.length<=8+200 * i+6 * j/\zU aa ms
  refine⟨_,rfl,R,rfl,⟨_,s4.seq (s3.seq hR)⟩,bP (xs:=138) E9 ⟨M,ms,_,_,rfl,s4,eM,∅,mO⟩ ?_ ?_ ?_⟩
  .rintro j σ H5 _ ⟨M,ms,y1,y2,rfl,s5,_⟩;exact s5.seq (s3.seq hR)
  .intro j x2 σ H5 iH mU
   ac_nf0
   obtain⟨M,ms,y1,y2,rfl,s5,eM,lM,mO⟩:=mU;have lj:=(bw.mp iH).1;rw [au] at lj;rw [a0] at iH;obtain⟨r,er,rfl⟩:=b0.mp iH;obtain⟨ru,e1,p,v1,v2⟩:=cI.get er;have iq:=qo.qO ru (cC e1);have CL:=s3.trans s5;refine⟨r,_,rfl,CL.tup v1,rfl,_,_,rfl,_,_,rfl,rfl,?_⟩;refine⟨_,rfl,_,rfl,M,_,rfl,.inl (aI.of eM),rfl,bZ _,_,rfl,?_⟩;refine 184
   .refine⟨_,rfl,_,rfl,p,rfl,⟨_,CL.tup v2⟩,λD2 jI=>gI (xs:=ru.2.map V.str) (λk ys σ2 H6=>∃zs:z0t,ys=148/\zs.length<=k/\(∃y0,σ2=[y0,aE D,aE M])/\aD H5 H6/\H6 D2=some (.lst ys)/\∀z∈zs,z∈ru.2)
     ⟨[],rfl,aG _,⟨none,rfl⟩,af jI _,ae,λ_ h=>(by cases h)⟩ (λk ys σ2 H6 _ h=>?_) (λk v ys σ2 H6 ex h=>?_) (λys σ2 H6 h=>?_)⟩
    .obtain⟨_,_,_,_,s6,_⟩:=h;exact s6.tup (CL.tup v2)
    .obtain⟨zs,rfl,lz,⟨y0,rfl⟩,s6,ou,zm⟩:=h;have lk:=(bw.mp ex).1;rw [au] at lk;rw [a0] at ex;obtain⟨z,ez,rfl⟩:=b0.mp ex;refine goN ?_;refine⟨_,rfl,_,rfl,D,_,rfl,.inl (aI.of (s6 _ _ (s5 _ _ uF))),rfl,bZ _,_,rfl,?_⟩;refine cf (λc1=>?_) (λc1=>?_)
     .refine⟨_,rfl,_,rfl,M,_,rfl,.inl (aI.of (s6 _ _ eM)),rfl,bZ _,_,rfl,?_⟩;refine cf (λc2=>?_) (λc2=>?_)
      .refine⟨_,rfl,ou,176,zs++[z],by rw [bj];rfl,by rw [a8];simp;omega,⟨_,rfl⟩,λb o hb=>?_,ae,λy hy=>(bO.mp hy).elim (zm y) λq=>(bA.mp q) ▸ cC ez⟩;rw [aj (λz=>by rw [z,jI] at hb;cases hb)];exact s6 b o hb
      exact⟨zs,rfl,∅,⟨_,rfl⟩,s6,ou,zm⟩
     refine iS ?_;exact⟨zs,rfl,∅,⟨_,rfl⟩,s6,ou,zm⟩
    obtain⟨zs,rfl,lz,_,s6,ou,zm⟩:=h;have cm:ru.1∈ms:=cW ((dG _ _).symm.trans c);rw [au] at lz;refine⟨M,D2,_,_,rfl,rfl,s6 _ _ eM,ou,fits (by rw [au,au];omega),λM2 hM2=>?_⟩;rw [<-bj];refine⟨M2,ms++zs,_,_,rfl,(s5.trans s6).trans (af hM2 _),ae,by rw [a8];omega,mO.app (cC e1) cm zm⟩
   exact⟨M,ms,_,_,rfl,s5,eM,∅,mO⟩
  rintro σ H5 ⟨M,ms,y1,y2,rfl,s5,eM,lM,mO⟩;rw [au,ll] at lM;exact⟨M,ms,_,_,_,rfl,s5,eM,∅,mO⟩
 rintro σ H4 ⟨M,ms,y1,y2,y6,rfl,s4,eM,lM,mO⟩;have yG:=s3.trans s4;refine⟨_,rfl,R,rs,aa,false,rfl,yG.seq hR,cI.same yG,qo,λEm H5 fEm s5 eEm lEm=>?_⟩;refine goN ?_
 ac_rfl
 refine⟨uo,λAl Zg=>?_⟩;have k6:=af Zg 132;have s6:=(yG.trans s5).trans k6;have TR:=k6 _ _ (s5 _ _ (s4 _ _ uF));have eE6:=k6 _ _ (s5 _ _ (s4 _ _ ZT));have eM6:=k6 _ _ (s5 _ _ eM);have TM:=k6 _ _ eEm;have eA6:upd H5 Al 132 Al=some 132:=ae;have nA:∀b o,H5 b=some o->b≠Al:=λb o h z=>by rw [z,Zg] at h;cases h
 have nAD:=nA _ _ (s5 _ _ (s4 _ _ uF));have nAE:=nA _ _ (s5 _ _ (s4 _ _ ZT));have nAM:=nA _ _ (s5 _ _ eM);have nAm:=nA _ _ eEm;have fAl:H Al=none:=(yG.trans s5).free Zg;generalize upd H5 Al 132=H6 at k6 s6 TR eE6 eM6 TM eA6;refine goN ?_
 ac_rfl
 let Kp:Hp->Prop:=λH7=>aD H H7/\H7 D=some (.lst ((hm aa).map V.str))/\H7 En=some (.lst ((bS true aa).map V.str))/\H7 M=some (.lst (ms.map V.str))/\H7 Em=some (.lst ((bS false aa).map V.str))
 have jS:∀{H7 H8:Hp},Kp H7->aD H7 H8->Kp H8:=λh s=>⟨h.1.trans s,s _ _ h.2.1,s _ _ h.2.2.1,s _ _ h.2.2.2.1,s _ _ h.2.2.2.2⟩;have R7:∀{H7:Hp}{xs:List V},Kp H7->Kp (upd H7 Al (.lst xs)):=λh=>⟨λb o hb=>by rw [aj (λz=>by rw [z,fAl] at hb;cases hb)];exact h.1 b o hb,by rw [aj nAD];exact h.2.1,by rw [aj nAE];exact h.2.2.1,by rw [aj nAM];exact h.2.2.2.1,by rw [aj nAm];exact h.2.2.2.2⟩
 let Na:Hp->z0q->z0i->Prop:=λH7 as bq=>Paired (λa (pr:Str×Str)=>aY K H7 a [.str pr.1,.str pr.2]) as bq
 let Ur:t_:=λi σ H7=>∃(as:z0q)(bq:z0i)(y1 y2 y6 y9 pS:Option V),σ=[aE R,y1,y2,aE D,aE En,aE M,y6,aE Em,aE Al,y9,pS,none,none,none]/\Kp H7/\H7 Al=some (.lst (as.map V.ref))/\Na H7 as bq/\as.length<=6 * i/\AlO aa (aa.take i) bq
 refine⟨_,rfl,R,rfl,⟨_,s6.seq hR⟩,bP (xs:=138) Ur ⟨[],[],_,_,_,_,_,rfl,⟨s6,TR,eE6,eM6,TM⟩,eA6,.nil,85,λru h=>(by simp at h)⟩ ?_ ?_ ?_⟩
 .rintro i σ H7 _ ⟨as,bq,y1,y2,y6,y9,pS,rfl,kp,_⟩;exact kp.1.seq hR
 .intro i x2 σ H7 iH mU
  ac_nf0
  obtain⟨as,bq,y1,y2,y6,y9,pS,rfl,kp,eA,pA,lA,aO⟩:=mU;have lj:=(bw.mp iH).1;rw [au] at lj;rw [a0] at iH;obtain⟨r,er,rfl⟩:=b0.mp iH;obtain⟨ru,e1,p,v1,v2⟩:=cI.get er;have iq:=qo.qO ru (cC e1);refine⟨r,_,rfl,kp.1.tup v1,rfl,_,_,rfl,_,_,rfl,rfl,?_⟩;refine⟨_,rfl,p,_,rfl,.inr (kp.1.tup v2),_,rfl,151,151,?_⟩;rw [au,ji]
  let Iz4:t_:=λj σ H8=>∃(as:z0q)(bq:z0i)(y9 pS:Option V),σ=[aE R,some (.str ru.1),aE p,aE D,aE En,aE M,y6,aE Em,aE Al,y9,pS,none,none,none]/\Kp H8/\H8 Al=some (.lst (as.map V.ref))/\Na H8 as bq/\as.length<=6 * i+j/\AlO aa (aa.take i) bq/\∀(j2:Nat)(z2:Str),j2 < j->Jp aa ru j2 z2->(ru.1,z2)∈bq
  refine jC (n:=ru.2.length) Iz4 ⟨as,bq,_,_,rfl,kp,eA,pA,∅,aO,λj2 _ h=>by omega⟩ ?_ ?_
  .intro j σ H8 hj mU
   ac_nf0
   obtain⟨as,bq,y9,pS,rfl,kp,eA,pA,lA,aO,aJ⟩:=mU;obtain⟨z,ez⟩:∃z,ru.2[j]?=some z:=⟨ru.2[j]'∅,df ∅⟩;have atj:pK (ru.2.map V.str) (0+(j:Int))=some (.str z):=by
    rw [i8];exact cK (by rw [a0,ez];rfl)
   have eq1:=vG ru.2 j;have eq2:=vH ru.2 j;have lq1:(ru.2.take j).length<=ru.2.length:=by rw [dJ];omega
   have lq2:(ru.2.drop (j+1)).length<=ru.2.length:=by rw [mz];omega
   have N6:∀y,y∈ru.2.take j++ru.2.drop (j+1)->∃k,k≠j/\ru.2[k]?=some y:=λy hy=>by
    rcases bO.mp hy with h | h
    .obtain⟨k,lk,ek⟩:=wQ h;exact⟨k,∅,ek⟩
    obtain⟨k,ek⟩:=gO h;rw [List.getElem?_drop] at ek;exact⟨j+1+k,∅,ek⟩
   generalize ru.2.take j=q1 at eq1 lq1 N6;generalize ru.2.drop (j+1)=q2 at eq2 lq2 N6;refine goN ?_
   ac_rfl
   refine⟨_,rfl,_,rfl,_,rfl,p,_,rfl,kp.1.tup v2,λt1 H9 s9 e9=>?_⟩;rw [eq1] at e9;refine⟨_,rfl,_,rfl,_,_,rfl,rfl,_,rfl,p,_,rfl,s9.tup (kp.1.tup v2),λt2 HA sA VU=>?_⟩;rw [eq2] at VU;refine⟨t1,t2,_,_,rfl,rfl,sA.tup e9,VU,fits (by rw [au,au];omega),λt3 HB sB eB=>?_⟩;rw [<-bj] at eB;refine goN ?_
   ac_rfl
   have WR:=s9.trans (sA.trans sB);have Mx:=jS kp WR;have Z3:=WR _ _ eA;have pAB:Na HB as bq:=Paired.b_ pA λa pr z=>WR.tup z;have yS:∀{HC:Hp},aD HB HC->¬Jp aa ru j z->∃(as:z0q)(bq:z0i)(Wj Wo:Option V),[aE R,some (.str ru.1),aE p,aE D,aE En,aE M,y6,aE Em,aE Al,some (.int (0+(j:Int))),aE t3,none,none,none]=[aE R,some (.str ru.1),aE p,aE D,aE En,aE M,y6,aE Em,aE Al,Wj,Wo,none,none,none]/\Kp HC/\HC Al=some (.lst (as.map V.ref))/\Na HC as bq/\as.length<=6 * i+(j+1)/\AlO aa (aa.take i) bq/\∀(j2:Nat)(z2:Str),j2 < j+1->Jp aa ru j2 z2->(ru.1,z2)∈bq:=λ{HC} sC nl=>⟨as,bq,_,_,rfl,jS Mx sC,sC _ _ Z3,Paired.b_ pAB λa pr z=>sC.tup z,∅,aO,λj2 z2 h lo=>by
    by_cases c:j2 < j
    .exact aJ j2 z2 c lo
    have:j2=j:=by omega
    subst this;have e2:=lo.1;rw [ez] at e2;cases e2;exact absurd lo nl⟩
   refine⟨_,rfl,_,rfl,p,_,_,_,rfl,rfl,Mx.1.tup v2,atj,_,rfl,D,_,rfl,.inl (aI.of Mx.2.1),rfl,bZ _,_,rfl,?_⟩;refine cf (λc1=>?_) (λc1=>?_)
   .refine⟨_,rfl,t3,rfl,⟨_,eB⟩,λD2 jI=>gH (zs:=q1++q2) [aE Em] (λz=>decide (z∈bS false aa)) rfl eB (by rw [a8];omega) jI (λz _ H5 Qy s5 hq=>?_) λHC sC eC=>?_⟩
    .refine⟨_,rfl,_,rfl,Em,_,rfl,.inl (aI.of (s5 _ _ Mx.2.2.2.2)),rfl,bZ _,?_⟩;rw [dG];exact hq
    refine⟨D2,_,rfl,aI.of eC,_,rfl,?_⟩;refine cf (λc2=>?_) (λc2=>?_)
    .have JB:=jS Mx sC;refine⟨_,rfl,.inl ⟨rfl,_,aI.of (sC _ _ Z3)⟩,_,rfl,_,rfl,_,rfl,p,_,_,_,rfl,rfl,JB.1.tup v2,atj,qi,λt ht=>?_⟩;have kD:=af ht (.tup [.str ru.1,.str z]);have sD:=sC.trans kD;have vD:aY K (upd HC t (.tup [.str ru.1,.str z])) t [.str ru.1,.str z]:=aY.of ae;generalize upd HC t (.tup [.str ru.1,.str z])=HD at kD sD vD;have Z2:=sD _ _ Z3;refine⟨Al,_,_,rfl,rfl,Z2,176,?_⟩;exact⟨as++[t],bq++[(ru.1,z)],_,_,rfl,R7 (jS Mx sD),by rw [ae,bj];rfl,gk (Paired.b_ pAB λa pr z=>bz Z2 (sD.tup z)) (bz Z2 vD),by rw [a8];simp;omega,λr Qc j2 z2 lo=>eI _ (aO r Qc j2 z2 lo),λj2 z2 h lo=>by
      by_cases c:j2 < j
      .exact eI _ (aJ j2 z2 c lo)
      have:j2=j:=by omega
      subst this;have e2:=lo.1;rw [ez] at e2;cases e2;exact dM _ cR⟩
    refine yS sC λlo=>c2 ?_;rw [all_map];refine eG.mpr λy hy=>cE ?_;obtain⟨k,nk,ek⟩:=N6 y hy;exact lo.2.2 k y nk ek
   refine iS ?_;exact yS (λ_ _ h=>h) λlo=>c1 ((dG _ _).trans (cE lo.2.1))
  rintro σ H8 ⟨as,bq,y9,pS,rfl,kp,eA,pA,lA,aO,aJ⟩;refine⟨as,bq,_,_,_,_,_,rfl,kp,eA,pA,∅,λr Qc j2 z2 lo=>?_⟩;rw [cO,e1] at Qc;rcases bO.mp Qc with h | h
  .exact aO r h j2 z2 lo
  have:r=ru:=bA.mp h;subst this;exact aJ j2 z2 (bw.mp lo.1).1 lo
 rintro σ H7 ⟨as,bq,y1,y2,y6,y9,pS,rfl,kp,eA,pA,lA,aO⟩;rw [au,ll] at lA aO;rw [cw] at aO;refine⟨uo,λCm Zd=>?_⟩;have k8:=af Zd 132;have X7:=jS kp k8;have eA8:=k8 _ _ eA;have pA8:Na (upd H7 Cm 132) as bq:=Paired.b_ pA λa pr z=>k8.tup z;have eC8:upd H7 Cm 132 Cm=some 132:=ae;have nC:∀b o,H7 b=some o->b≠Cm:=λb o h z=>by rw [z,Zd] at h;cases h
 have nCA:=nC _ _ eA;have nCD:=nC _ _ kp.2.1;have nCE:=nC _ _ kp.2.2.1;have nCM:=nC _ _ kp.2.2.2.1;have nCm:=nC _ _ kp.2.2.2.2;have fCm:H Cm=none:=kp.1.free Zd;have R6:∀{H7:Hp}{xs:List V},Kp H7->Kp (upd H7 Cm (.lst xs)):=λh=>⟨λb o hb=>by rw [aj (λz=>by rw [z,fCm] at hb;cases hb)];exact h.1 b o hb,by rw [aj nCD];exact h.2.1,by rw [aj nCE];exact h.2.2.1,by rw [aj nCM];exact h.2.2.2.1,by rw [aj nCm];exact h.2.2.2.2⟩;generalize upd H7 Cm 132=H8 at k8 X7 eA8 pA8 eC8;refine goN ?_
 ac_rfl
 have lap:=bc pA
 let Iz5:t_:=λi σ H9=>∃(cs:z0t)(y1 y2 y6 y9 pS wG Ju:Option V),σ=[aE R,y1,y2,aE D,aE En,aE M,y6,aE Em,aE Al,y9,pS,aE Cm,wG,Ju]/\Kp H9/\H9 Al=some (.lst (as.map V.ref))/\Na H9 as bq/\H9 Cm=some (.lst (cs.map V.str))/\cs.length<=32 * i/\QI aa bq cs
 refine⟨_,rfl,R,rfl,⟨_,X7.1.seq hR⟩,bP (xs:=138) Iz5 ⟨[],_,_,_,_,_,_,_,rfl,X7,eA8,pA8,eC8,85,⟨85,λ_ h=>(by cases h),λi h e=>(by cases e)⟩⟩ ?_ ?_ ?_⟩
 .rintro i σ H9 _ ⟨cs,y1,y2,y6,y9,pS,wG,Ju,rfl,JC,_⟩;exact JC.1.seq hR
 .intro i x σ H9 ex mU
  ac_nf0
  obtain⟨cs,y1,y2,y6,y9,pS,wG,Ju,rfl,JC,eA9,pA9,ZX,lC9,Pu⟩:=mU;have li:=(bw.mp ex).1;rw [au] at li;refine goN ?_
  ac_nf
  let Iz6:t_:=λj σ HA=>∃(cs:z0t)(wG Ju:Option V),σ=[aE R,y1,y2,aE D,aE En,aE M,some x,aE Em,aE Al,y9,pS,aE Cm,wG,Ju]/\Kp HA/\HA Al=some (.lst (as.map V.ref))/\Na HA as bq/\HA Cm=some (.lst (cs.map V.str))/\cs.length<=32 * i+j/\QI aa bq cs
  refine⟨_,rfl,D,rfl,⟨_,aI.of JC.2.1⟩,bP (xs:=(hm aa).map V.str) Iz6 ⟨cs,_,_,rfl,JC,eA9,pA9,ZX,∅,Pu⟩ ?_ ?_ ?_⟩
  .rintro j σ HA _ ⟨cs,wG,Ju,rfl,R8,_⟩;exact aI.of R8.2.1
  .intro j x2 σ HA iH mU
   ac_nf0
   obtain⟨cs,wG,Ju,rfl,R8,Qv,Rz,Qu,lCA,VY⟩:=mU;have lj:=(bw.mp iH).1;rw [au] at lj;rw [a0] at iH;obtain⟨nm,enm,rfl⟩:=b0.mp iH;refine goN ?_;refine⟨_,rfl,Al,rfl,⟨_,aI.of Qv⟩,λD2 jI=>bT (xs:=as.map V.ref) (λk ys σ2 HB=>∃bs:List Bool,ys=bs.map V.bl/\bs.length<=k/\(∃y0 y1,σ2=[y0,y1,aE Cm,some (.str nm)])/\aD HA HB/\HB D2=some (.lst ys)/\(bs.all id=true->∀pr∈bq.take k,pr.1=nm->pr.2∈cs))
    ⟨[],rfl,aG _,⟨none,none,rfl⟩,af jI _,ae,λ_ _ h=>(by simp at h)⟩ (λk ys σ2 HB _ h=>?_) (λk v ys σ2 HB ex h=>?_) (λys σ2 HB h=>?_)⟩
   .obtain⟨_,_,_,_,sB,_⟩:=h;exact aI.of (sB _ _ Qv)
   .obtain⟨bs,rfl,lz,⟨u0,u1,rfl⟩,sB,eB,zA⟩:=h;have lk:=(bw.mp ex).1;rw [au] at lk;rw [a0] at ex;obtain⟨a,ea,rfl⟩:=b0.mp ex;obtain⟨pr,epr⟩:∃pr,bq[k]?=some pr:=⟨bq[k]'∅,df ∅⟩;obtain⟨a',ea',va⟩:=Paired.at_ Rz k pr epr;rw [ea] at ea';cases ea';have tk:bq.take (k+1)=bq.take k++[pr]:=by rw [cO,epr];rfl
    refine⟨a,_,rfl,sB.tup va,rfl,_,_,rfl,_,_,rfl,rfl,?_⟩;refine⟨_,rfl,_,rfl,rfl,_,rfl,?_⟩;refine cf (λc1=>?_) (λc1=>?_)
    .refine⟨_,rfl,_,rfl,Cm,_,rfl,.inl (aI.of (sB _ _ Qu)),rfl,bZ _,?_⟩;rw [dG];refine⟨eB,176,bs++[decide (pr.2∈cs)],by rw [bj];rfl,by rw [a8];simp;omega,⟨_,_,rfl⟩,λb o hb=>?_,ae,λEH p2 uz e2=>?_⟩
     .rw [aj (λz=>by rw [z,jI] at hb;cases hb)];exact sB b o hb
     rw [List.all_append,ni] at EH;rw [tk] at uz;rcases bO.mp uz with h | h
     .exact zA EH.1 p2 h e2
     rw [bA.mp h];have:=EH.2;simpa using this
    refine⟨bs,rfl,∅,⟨_,_,rfl⟩,sB,eB,λEH p2 uz e2=>?_⟩;rw [tk] at uz;rcases bO.mp uz with h | h
    .exact zA EH p2 h e2
    have:p2=pr:=bA.mp h;rw [this] at e2;exact absurd (cE (congrArg V.str e2)) c1
   obtain⟨bs,rfl,lz,_,sC,eC,zA⟩:=h;rw [au] at lz zA;rw [lap,cw] at zA;have JB:=jS R8 sC;have yS:∃(cs:z0t)(Wn Wm:Option V),[aE R,y1,y2,aE D,aE En,aE M,some x,aE Em,aE Al,y9,pS,aE Cm,some (.str nm),Ju]=[aE R,y1,y2,aE D,aE En,aE M,some x,aE Em,aE Al,y9,pS,aE Cm,Wn,Wm]/\Kp HB/\HB Al=some (.lst (as.map V.ref))/\Na HB as bq/\HB Cm=some (.lst (cs.map V.str))/\cs.length<=32 * i+(j+1)/\QI aa bq cs:=⟨cs,_,_,rfl,JB,sC _ _ Qv,Paired.b_ Rz λa pr z=>sC.tup z,sC _ _ Qu,∅,VY⟩;refine⟨D2,_,rfl,aI.of eC,_,rfl,?_⟩;refine cf (λc2=>?_) (λc2=>?_)
   .refine⟨_,rfl,_,rfl,Cm,_,rfl,.inl (aI.of (sC _ _ Qu)),rfl,bZ _,_,rfl,?_⟩;refine cf (λc1=>?_) (λc1=>?_)
    .have ZW:=sC _ _ Qu;have nc:nm∉cs:=λh=>by
      have c1':(!Oy (V.str nm) (cs.map V.str))=true:=c1;rw [dG,cE h] at c1';cases c1'
     refine⟨_,rfl,.inl ⟨rfl,_,aI.of ZW⟩,_,rfl,Cm,_,_,rfl,rfl,ZW,176,?_⟩;exact⟨cs++[nm],_,_,rfl,R6 JB,by rw [aj nCA];exact sC _ _ Qv,Paired.b_ Rz λa pr z=>bz ZW (sC.tup z),by rw [ae,bj];rfl,by rw [a8];simp;omega,VY.add nc (cC enm) λz hz=>zA c2 (nm,z) hz rfl⟩
    exact yS
   refine iS ?_;exact yS
  rintro σ HA ⟨cs,wG,Ju,rfl,R8,Qv,Rz,Qu,lCA,VY⟩;rw [au,C7] at lCA;exact⟨cs,_,_,_,_,_,_,_,rfl,R8,Qv,Rz,Qu,∅,VY⟩
 rintro σ H9 ⟨cs,y1,y2,y6,y9,pS,wG,Ju,rfl,JC,eA9,pA9,ZX,lC9,Pu⟩;refine⟨_,rfl,D,rfl,⟨_,aI.of JC.2.1⟩,λD3 OV=>qc (zs:=hm aa) [aE En,aE M,aE Cm] (λz=>decide (z∈bS true aa) && (decide (z∈ms) && decide (z∈cs))) rfl (aI.of JC.2.1) ∅ OV (λz _ H5 Qy s5 hq=>?_) λHC sC eC=>?_⟩
 .refine⟨_,rfl,_,rfl,En,_,rfl,.inl (aI.of (s5 _ _ JC.2.2.1)),rfl,bZ _,_,rfl,?_⟩;rw [dG];show if decide (z∈bS true aa)=true then _ else _;refine 184
  .rw [c,mn] at hq;refine⟨_,rfl,_,rfl,M,_,rfl,.inl (aI.of (s5 _ _ JC.2.2.2.1)),rfl,bZ _,_,rfl,?_⟩;rw [dG];show if decide (z∈ms)=true then _ else _;refine 184
   .rw [c,mn] at hq;refine⟨_,rfl,_,rfl,Cm,_,rfl,.inl (aI.of (s5 _ _ ZX)),rfl,bZ _,?_⟩;rw [dG];exact hq
   have c':decide (z∈ms)=false:=by simpa using c
   rw [c',q_] at hq;exact hq
  have c':decide (z∈bS true aa)=false:=by simpa using c
  rw [c',q_] at hq;exact hq
 refine⟨D3,_,rfl,aI.of eC,?_⟩;rw [all_map];refine⟨_,rfl,_,rfl,?_⟩;have JB:=jS JC sC;have coP:PlO aa cs:=λi h e ru iq er j z lo=>Pu.co i h e z (er ▸ aO ru iq j z lo);refine cf (λhb=>?_) (λhb=>q _ _ JB.1 λh=>(by cases h));have al:=λz hz=>jj.mp (eG.mp hb z hz);have ca:∀z∈hm aa,z∈cs:=λz hz=>cW (jj.mp (al z hz).2).2;refine⟨_,rfl,_,rfl,R,Em,rs,aa,bS false aa,rfl,JB.1.seq hR,cI.same JB.1,qo,JB.2.2.2.2,∅,λb HF sF hv=>?_⟩;refine q _ _ (JB.1.trans sF) λIA=>⟨ms,cs,?_⟩;obtain⟨v1,v2⟩:=hv IA;have ahd:PU aa (bS false aa) cs:=λru iq hp=>by
  have hc:=ca _ (iw iq);refine⟨hc,λp jT=>?_⟩;obtain⟨j,ej⟩:=gO jT;exact sU cs p _ (coP _ _ (xG cs ru.1 hc) ru iq rfl j p ⟨ej,(ot false aa).sub p (hp p jT),λk y _ ey=>hp y (cC ey)⟩)
 have lcs:=iQ cs _ Pu.cn Pu.ch;refine⟨mO,λz hz=>cW (jj.mp (al z hz).2).1,Pu.cn,Pu.ch,coP,ca,v1,_,FI (λx hx=>tK hx) ahd (n:=aa.length) ∅,λh hh=>v2 h (l_.mpr hh)⟩
end
theorem pV {α β:Type}{F:α->β->Prop}:∀{xs:List α}{ys:List β}{Fh:List α}{QM:List β},Paired F xs ys->Paired F Fh QM->Paired F (xs++Fh) (ys++QM)
 | _,_,_,_,.nil,h=>h
 | _,_,_,_,.cons a b,h=>.cons a (pV b h)
def F_ {aa:83}{cy ws:z0t}(nd:cy.Nodup)(n9:cy.length<=9)(dj:∀x∈cy,x∉ws)(hl:aa.length=cy.length)
  (hs:∀(j:Nat)(ru:ax),aa[j]?=some ru->cy[j]?=some ru.1/\x_ cy ws j ru.2):Chn aa cy ws:=by
 refine⟨nd,n9,dj,λi_ e=>(hs 0 i_ e).1,λru h=>?_,λa h e=>?_,λru h=>?_⟩
 .obtain⟨a,e⟩:=gO h;exact cC (hs a ru e).1
 .have la:=(bw.mp e).1;have e2:aa[a]?=some (aa[a]'∅):=df ∅;obtain⟨x1,x2⟩:=hs a _ e2;rw [e] at x1;refine⟨(aa[a]'∅).2,?_,?_⟩
  .rw [show h=(aa[a]'∅).1 from hJ x1];exact cC e2
  rcases x2 with ⟨n',wx,e3,_,hw,_,jT⟩ | ⟨l,hw,_⟩
  .rcases jT with q | q
   .exact .inl ⟨n',wx,[],e3,q,hw,λ_ h=>(by cases h)⟩
   exact .inl ⟨n',[],wx,e3,q,λ_ h=>(by cases h),hw⟩
  exact .inr ⟨∅,hw⟩
 obtain⟨a,e⟩:=gO h;rcases (hs a ru e).2 with ⟨n',wx,_,UE,hw,_,jT⟩ | ⟨_,hw,_⟩
 .obtain⟨y,hy⟩:=List.exists_mem_of_ne_nil wx UE;refine .inl ⟨y,?_,hw y hy⟩;rcases jT with q | q
  .rw [q];exact eI _ hy
  rw [q];exact cS _ hy
 cases hc:ru.2 with
 | nil=>exact .inr (.inl rfl)
 | cons p r=>exact .inl ⟨p,cR,hw p (by rw [hc];exact cR)⟩
def QG (cy ws:z0t)(aa:83):Prop:=∀ru∈aa,ru.1∈cy/\ru.2.length<=6/\∀x∈ru.2,x∈cy++ws
structure Fc (c:Int)(aa:83):Prop where
 one:1<=aa.length
 most:aa.length<=8
 ins:∃cy,PK c cy/\QG cy (eY c) aa
 good:∃rk b,Good aa rk b
 tx:∃cy,PK c cy/\QG cy (eY c) aa/\(aa.length<=4\/∀n∈cy,n∈hm aa)
section
def F1 (K:bp):Sp:=λvs H Q _=>∃(S:Addr)(ns:z0u) (at_:Nat),vs=[.ref S,.int (at_:Int)]/\aI K H S (ns.map V.int)/\ns.length<=1000 /\
 ∀(c:Int)(R:Addr)(rs:z0q)(aa:83)(H':Hp),c=cellAt ns at_->H R=none->aD H H'->H' R=some (.lst 146)->bK K H' rs aa->Fc c aa->Q (.ref R) H'
def mF:aK ["_law_script","_law_at","_law_cell","_law_names_here","_law_words_here","_law_rules","_law_more_here","_law_free"] ["_law_script","_law_at"] (ay Gn):=152
def KH (F:ir K "_law_grammar" "_law_grammar" Gn f fd)(T:Txt mg)(GC:aF P w K mg base 2 "_law_cell_at" ["_law_script","_law_k"] (wV K))(GN:aF P w K mg base 2 "_law_names" ["_law_cell"] CB)(GW:aF P w K mg base 2 "_law_words" ["_law_cell"] yx)
  (GS:aF P w K mg base 2 "_law_skeleton" ["_law_script","_law_at","_law_names_here","_law_words_here"] (FX K))(GM:aF P w K mg base 2 "_law_more" ["_law_script","_law_at","_law_names_here","_law_many","_law_words_here"] (FY K))(GG:aF P w K mg base 2 "_law_good" ["_law_rules"] (F3 K)) :
  bR P w K mg base fK 3 f fd ["_law_script","_law_at"] (F1 K):=by
 refine F.ok mF 157 161
 .obtain⟨S,ns,at_,rfl,_⟩:=h;rfl
 obtain⟨S,ns,at_,rfl,hS,hn,q⟩:=h;refine⟨_,ai (az (i:=2) mF.nd rfl 84 (bu GC hr rfl (ab (pv 0) (ab (pv 1) ak))))
  (ai (az (i:=3) mF.nd rfl 84 (bu GN hr rfl (ab (pv 2) ak)))
  (ai (az (i:=4) mF.nd rfl 84 (bu GW hr rfl (ab (pv 2) ak)))
  (ai (az (i:=5) mF.nd rfl 84 (bu GS hr rfl (ab (pv 0) (ab (aQ dw (pv 1) av) (ab (pv 3) (ab (pv 4) ak))))))
  (ai (az (i:=6) mF.nd rfl 84 (bu GM hr rfl (ab (pv 0) (ab (aQ dw (pv 1) av) (ab (pv 3) (ab (aQ du (aQ c_ (pv 2) av) av) (ab (pv 4) ak)))))))
  (ai (ie (cq (a_ kR (aQ du (aQ c_ (pv 2) av) av) av (cx _))
   (ai (az (i:=7) mF.nd rfl 84 (bu GM hr rfl (ab (pv 0) (ab (aQ dw (pv 1) av) (ab (pv 3) (ab (aQ dw av (aQ du (aQ c_ (pv 2) av) av)) (ab (pv 4) ak)))))))
   (ao (cq (gS (bu GG hr rfl (ab (pv 7) ak))) (ao (br (pv 7))) a7))) a7))
  (ai (cq (gS (bu GG hr rfl (ab (aQ jb (pv 5) (pv 6)) ak))) (ao (br (aQ jb (pv 5) (pv 6)))) a7)
  (ao (br (pv 5))))))))),?_⟩
 refine⟨_,rfl,_,rfl,S,ns,at_,rfl,hS,hn,λc hc=>?_⟩;have wl:=mW c;refine⟨_,rfl,c,rfl,λN cy H1 fN s1 eN nk=>?_⟩;have gl:1<=cy.length/\cy.length<=5:=⟨nk.one,nk.O3⟩;refine⟨_,rfl,c,rfl,λW H2 fW s2 eW=>?_⟩;have Gw:=s1.trans s2;have MX:=s2 _ _ eN;refine⟨_,rfl,_,rfl,_,_,rfl,rfl,_,rfl,_,rfl,S,N,W,ns,at_+1,cy,eY c,(by show [V.ref S,V.int ((at_:Int)+1),V.ref N,V.ref W]=_;congr 3),Gw.seq hS,hn,MX,eW,∅,∅,∅,∅,λR1 Mg iM H3 f3 s3 e3 Rn l3 UR=>?_⟩;have DN:=Gw.trans s3;obtain⟨m,Qf⟩:∃m:Nat,c / 9 % 4=(m:Int):=⟨(c / 9 % 4).toNat,∅⟩;refine⟨_,rfl,_,rfl,_,_,rfl,rfl,_,rfl,_,rfl,_,_,rfl,rfl,⟨nofun,nofun⟩,_,_,rfl,rfl,(by show (0:Int) < 4;decide),_,rfl,S,N,W,ns,at_+4,m,cy,eY c,(by show [V.ref S,V.int ((at_:Int)+4),V.ref N,V.int (c / 9 % 4),V.ref W]=_;rw [Qf];congr 3),DN.seq hS,hn,s3 _ _ MX,s3 _ _ eW,∅,∅,∅,∅,λR2 NP o5 H4 f4 s4 e4 UY l4 in4=>?_⟩;have yG:=DN.trans s4;have e34:=s4 _ _ e3;have NQ:=Rn.same s4;have O1:=F_ nk.nd ∅ nk.dj l3 UR;have in1:QG cy (eY c) iM:=λru h=>by
  refine⟨O1.Ln ru h,?_,λx hx=>?_⟩
  .obtain⟨a,e⟩:=gO h;rcases (UR a ru e).2 with ⟨n',wx,_,_,_,l2,h | h⟩ | ⟨_,_,l2⟩
   .rw [h,a8];simp;omega
   .rw [h,dI];omega
   omega
  obtain⟨a,e⟩:=gO h;rcases (UR a ru e).2 with ⟨n',wx,en,_,hw,_,jT⟩ | ⟨_,hw,_⟩
  .have cs:x=n'\/x∈wx:=by
    rcases jT with h | h
    .rw [h] at hx;rcases bO.mp hx with q | q
     .exact .inr q
     exact .inl (bA.mp q)
    rw [h] at hx;rcases b8.mp hx with q | q
    .exact .inl q
    exact .inr q
   rcases cs with rfl | q
   .exact eI _ (cC en)
   exact dM _ (hw x q)
  exact dM _ (hw x hx)
 have RD:∀{aa:83}{ms cs:z0t},Dy aa ms cs->1<=aa.length->aa.length<=8->QG cy (eY c) aa->(aa.length<=4\/∀n∈cy,n∈hm aa)->Fc c aa:=λg a b i x=>⟨a,b,⟨cy,nk,i⟩,g.good,cy,nk,i,x⟩;have SV:∀n∈cy,n∈hm iM:=λn h=>by
  obtain⟨a,e⟩:=gO h;have la:=(bw.mp e).1;have e2:iM[a]?=some (iM[a]'∅):=df ∅;have x1:=(UR a _ e2).1;rw [e] at x1;exact bY.mpr ⟨_,cC e2,(hJ x1).symm⟩
 have Rf:∀{aa:83},1<=aa.length->aa.length<=8->QG cy (eY c) aa->Small aa:=λa b i=>⟨a,∅,λru h=>(i ru h).2.1⟩;refine⟨λσ H5=>∃y7,σ=[aE S,some (.int (at_:Int)),some (.int c),aE N,aE W,aE R1,aE R2,y7]/\aD H4 H5,?_,?_⟩
 .refine⟨_,rfl,_,_,rfl,rfl,⟨nofun,nofun⟩,_,_,rfl,rfl,(by show (0:Int) < 2;decide),rfl,_,rfl,?_⟩;refine cf (λcc=>?_) (λcc=>?_)
  .have Qe:1+c / 9 % 4=((m+1:Nat):Int):=by omega
   refine⟨_,rfl,_,rfl,_,_,rfl,rfl,_,rfl,_,rfl,_,_,rfl,rfl,⟨nofun,nofun⟩,_,_,rfl,rfl,(by show (0:Int) < 4;decide),_,_,rfl,rfl,_,rfl,S,N,W,ns,at_+4,m+1,cy,eY c,(by show [V.ref S,V.int ((at_:Int)+4),V.ref N,V.int (1+c / 9 % 4),V.ref W]=_;rw [Qe];congr 3),yG.seq hS,hn,s4 _ _ (s3 _ _ MX),s4 _ _ (s3 _ _ eW),∅,∅,∅,∅,λR3 rs3 Gz H5 f5 s5 e5 Mh l5 Vb=>?_⟩;have CL:=yG.trans s5;refine⟨_,rfl,R3,rs3,Gz,rfl,aI.of e5,Mh,Rf ∅ ∅ Vb,λb H6 s6 hb=>⟨b,rfl,?_⟩⟩;refine cf (λc2=>?_) (λc2=>?_)
   .obtain⟨ms,cs,g⟩:=hb c2;exact⟨_,rfl,q c R3 rs3 Gz H6 hc (yG.free f5) (CL.trans s6) (s6 _ _ e5) (Mh.same s6) (RD g ∅ ∅ Vb (.inl ∅))⟩
   exact⟨_,rfl,s5.trans s6⟩
  exact⟨_,rfl,aD.refl _⟩
 rintro σ H5 ⟨y7,rfl,s5⟩;have CL:=yG.trans s5;have eA:=s5 _ _ e34;have eB:=s5 _ _ e4;have aay:=bc NQ;have aax:=bc UY;have inB:QG cy (eY c) (iM++o5):=λru h=>(bO.mp h).elim (in1 ru) (in4 ru);have Jz:1<=(iM++o5).length/\(iM++o5).length<=8:=by rw [a8];omega
 have rlB:bK K H5 (Mg++NP) (iM++o5):=pV (NQ.same s5) (UY.same s5);refine⟨_,rfl,_,rfl,R1,R2,_,_,rfl,rfl,eA,eB,fits (by rw [au,au];omega),λR4 hR4=>?_⟩;rw [<-bj];have k6:=af hR4 (.lst ((Mg++NP).map V.ref));have e6:upd H5 R4 (.lst ((Mg++NP).map V.ref)) R4=some (.lst ((Mg++NP).map V.ref)):=ae;generalize upd H5 R4 (.lst ((Mg++NP).map V.ref))=H6 at k6 e6;have Mf:=CL.trans k6;refine⟨R4,Mg++NP,iM++o5,rfl,aI.of e6,rlB.same k6,Rf Jz.1 Jz.2 inB,λb H7 s7 hb=>⟨b,rfl,?_⟩⟩;have z9:=k6.trans s7;refine cf (λc2=>?_) (λc2=>?_)
 .obtain⟨ms,cs,g⟩:=hb c2;refine⟨_,rfl,_,rfl,R1,R2,_,_,rfl,rfl,z9 _ _ eA,z9 _ _ eB,fits (by rw [au,au];omega),λR5 Y6=>?_⟩;rw [<-bj];exact q c R5 (Mg++NP) (iM++o5) _ hc ((Mf.trans s7).free Y6) ((Mf.trans s7).trans (af Y6 _)) ae ((rlB.same z9).same (af Y6 _)) (RD g Jz.1 Jz.2 inB (.inr λn h=>by unfold hm;rw [bj];exact eI _ (SV n h)))
 exact⟨_,rfl,q c R1 Mg iM H7 hc (Gw.free f3) (Mf.trans s7) (z9 _ _ eA) ((NQ.same s5).same z9) ⟨∅,∅,⟨cy,nk,in1⟩,O1.good,cy,nk,in1,.inr SV⟩⟩
end
end g9
namespace L2
open PySem PySem.Spec PyProof.Rows
def O7:List V->List V->Bool
 | [],[]=>true
 | x::xs,y::ys=>vA x y && O7 xs ys
 | _,_=>false
theorem vB:∀(xs ys:List V),((List.range (min xs.length ys.length)).all (λj=>vA (xs.getD j .d0) (ys.getD j .d0)) && (xs.length == ys.length))=O7 xs ys
 | [],[]=>rfl
 | [],y::ys=>by simp [O7]
 | x::xs,[]=>by simp [O7]
 | x::xs,y::ys=>by
  have ih:=vB xs ys;show _=(vA x y && O7 xs ys);rw [<-ih,dI,dI,Nat.succ_min_succ,List.range_succ_eq_map,List.all_cons,List.all_map];simp only [Function.comp_def,List.getD_cons_zero,List.getD_cons_succ,Nat.succ_eq_add_one];rw [Bool.and_assoc]
  congr 2
  simp
def BR {A:Around}{s:Shared}{xs ys:List V}{aT ft:z0n}(r:bF xs aT)(r2:bF ys ft)(fx:xs.all jE=true)(fy:ys.all jE=true) (j:Nat)(h1:j < aT.toArray.size)(h2:j < ft.toArray.size) :
  SeqAt.EqAt A s aT.toArray[j] ft.toArray[j] (vA (xs.getD j .d0) (ys.getD j .d0)):=by
 have l1:=r.length;have l2:=r2.length;have k1:j < aT.length:=by simpa using h1
 have k2:j < ft.length:=by simpa using h2
 have g1:xs[j]?=some (xs[j]'∅):=df ∅;have g2:ys[j]?=some (ys[j]'∅):=df ∅;obtain⟨u1,e1,q1⟩:=r.get g1;obtain⟨u2,e2,q2⟩:=r2.get g2;have f1:aT.toArray[j]=u1:=by
  have:=(bw.mp e1).2;simpa using this
 have f2:ft.toArray[j]=u2:=by
  have:=(bw.mp e2).2;simpa using this
 rw [f1,f2];have d1:xs.getD j .d0=xs[j]'∅:=by rw [yl,g1];rfl
 have d2:ys.getD j .d0=ys[j]'∅:=by rw [yl,g2];rfl
 rw [d1,d2];exact BZ q1 q2 (eG.mp fx _ (vZ _)) (eG.mp fy _ (vZ _))
section
variable {P:Program}{w:World}{A:Around}{E:z0b}{s:Shared}
end
section
variable {P:Program}{w:World}{A:Around}{R:Result->Shared->Prop}{I:Addr}{fp wr:z0q}{G:Array GenState->Array GenState->Prop}{n:Nat}{Pv:Nat->Value->Prop}{St:Nat->Shared->Prop}
end
section
variable {P:Program}{w:World}{A:Around}{E:z0b}{s:Shared}
end
section
variable {M:Model}{A:Around}{E:z0b}
end
section
variable {P:Program}{w:World}{A:Around}{E:z0b}{s:Shared}
end
def O6 (q pr:Str×Str):O7 [V.str q.1,V.str q.2] [V.str pr.1,V.str pr.2]=decide (q=pr):=by
 obtain⟨a,b⟩:=q;obtain⟨c,d⟩:=pr;show (vA (.str a) (.str c) && (vA (.str b) (.str d) && true))=_;have h:∀x y:Str,vA (.str x) (.str y)=decide (x=y):=λx y=>by
  show (x == y)=_;rw [jf,beq_iff_eq,decide_eq_true_iff]
 rw [h,h,Bool.and_true];by_cases e1:a=c
 .by_cases e2:b=d
  .rw [e1,e2];simp
  simp [e1,e2]
 simp [e1]
def Kk {X:Cx}{ag:z0e}{σ:St}{H:Hp}{s:Shared}(A:Around)(hu:A.units < cLine)(I:133){t a:Addr}{q pr:Str×Str}(ht:aY X.K H t [.str q.1,.str q.2])(ha:aY X.K H a [.str pr.1,.str pr.2]):SeqAt.EqAt A s (.ref t) (.ref a) (decide (q=pr)):=by
 by_cases e:t=a
 .subst e;have:=I.jm ht ha;injection this with h1 h2;injection h2 with h2 _;injection h1 with h1;injection h2 with h2;rw [cE (gN h1 h2)];exact SeqAt.EqAt.same _
 obtain⟨aT,r,pl,hz⟩:=I.tuple ht;obtain⟨ft,r2,DT,hz2⟩:=I.tuple ha;have l1:=r.length;have l2:=r2.length;refine .of_refs e ?_;rw [<-O6];have h:=SeqAt.RcAt.tuples (A:=A) (e:=λj=>vA ([V.str q.1,V.str q.2].getD j .d0) ([V.str pr.1,V.str pr.2].getD j .d0)) pl DT hu (λj h1 h2=>BR r r2 rfl rfl j h1 h2);have e2:((List.range (min aT.toArray.size ft.toArray.size)).all (λj=>vA ([V.str q.1,V.str q.2].getD j .d0) ([V.str pr.1,V.str pr.2].getD j .d0)) && aT.toArray.size == ft.toArray.size)=O7 [V.str q.1,V.str q.2] [V.str pr.1,V.str pr.2]:=by
  rw [<-vB];simp only [cH,<-l1,<-l2]
 rw [e2] at h;exact h
open Classical in
theorem CO {X:Cx}{ag:z0e}{σ:St}{H:Hp}{s:Shared}(I:133){pr:Str×Str}:∀{ts:z0q}{bq:z0i}{aT:z0n},bF (ts.map V.ref) aT->Paired (λt (q:Str×Str)=>aY X.K H t [.str q.1,.str q.2]) ts bq ->
  (∀y∈aT,∃(t:Addr)(q:Str×Str),y=.ref t/\aY X.K H t [.str q.1,.str q.2])/\(aT.any λy=>match y with | .ref t=>decide (aY X.K H t [.str pr.1,.str pr.2]) | _=>false)=decide (pr∈bq)
 | [],_,aT,r,p=>by
  cases p;cases r;exact⟨λy h=>(by cases h),85⟩
 | t::ts,_,aT,r,p=>by
  cases p with
  | @cons _ q _ bq h p2 =>
  cases r with
  | @cons _ u _ us hu r2 =>
  obtain⟨i1,i2⟩:=CO I r2 p2;cases (show u=Value.ref t from hu);refine⟨λy hy=>?_,?_⟩
  .rcases b8.mp hy with e | e
   .exact⟨t,q,e,h⟩
   exact i1 y e
  rw [oK,i2];show (decide (aY X.K H t [.str pr.1,.str pr.2]) || decide (pr∈bq))=decide (pr∈q::bq)
  have e:aY X.K H t [.str pr.1,.str pr.2]↔pr=q:=⟨λz=>by
   have:=I.jm z h;injection this with h1 h2;injection h2 with h2 _;injection h1 with h1;injection h2 with h2;exact gN h1 h2,λz=>by rw [z];exact h⟩
  rw [jf,Bool.or_eq_true_iff,decide_eq_true_iff,decide_eq_true_iff,decide_eq_true_iff,b8,e]
def Rr (K:bp)(neg:Bool):R2:=λx y H Q=>∃(a p:Addr)(pr:Str×Str)(ts:z0q)(bq:z0i),x=.ref a/\y=.ref p/\aY K H a [.str pr.1,.str pr.2]/\aI K H p (ts.map V.ref)/\Paired (λt (q:Str×Str)=>aY K H t [.str q.1,.str q.2]) ts bq/\Q (.bl (if neg then !decide (pr∈bq) else decide (pr∈bq))) H
open Classical in
def DW {X:Cx}(hu:X.A.units+1 < cLine):ng X (compareOp .NotIn) (Rr X.K true):=by
 intro ag s σ H x y v u Q I rx ry h;obtain⟨a,p,pr,ts,bq,rfl,rfl,ha,hp,Sw,q⟩:=h;cases rx;cases ry;obtain⟨aT,r,pl,hz⟩:=I.list hp;obtain⟨i1,i2⟩:=CO I (pr:=pr) r Sw;refine SeqAt.notIn_listAt (λy=>match y with | .ref t=>decide (aY X.K H t [.str pr.1,.str pr.2]) | _=>false) pl.isList (λy hy=>?_) ⟨.bl _,H,I,rfl,?_⟩
 .obtain⟨t,q2,rfl,ht⟩:=i1 y (by simpa using hy);have:=Kk X.A.in1 (by rw [rg];exact hu) I ht ha;have e:decide (q2=pr)=decide (aY X.K H t [.str pr.1,.str pr.2]):=by
   rw [jf,decide_eq_true_iff,decide_eq_true_iff];refine⟨λz=>by rw [<-z];exact ht,λz=>?_⟩;have:=I.jm ht z;injection this with h1 h2;injection h2 with h2 _;injection h1 with h1;injection h2 with h2;exact gN h1 h2
  rw [e] at this;exact this
 rw [show aT.toArray.any (λy=>match y with | .ref t=>decide (aY X.K H t [.str pr.1,.str pr.2]) | _=>false)=aT.any (λy=>match y with | .ref t=>decide (aY X.K H t [.str pr.1,.str pr.2]) | _=>false) by simp,i2]
 exact q
section
variable {prog:Program}{w:World}{A:Around}{E:z0b}{s:Shared}
def AF {a:Addr}{vs:z0n}{n:Nat}{P:Fin->Shared->Prop}(ho:s.heap.get? a=some (seqObj "list" vs.toArray n))(h1:vs.length < 2)
  (h:P (.done (.ret .none)) { s with heap:=sortedHeap s.heap a vs ((pairsOf vs).map (·.2)) }) :
  wpAny 150 A (Builtin.«list.sort» ⟨[.ref a],[]⟩) P E s:=by
 rw [list_sort_plain];have ha:a < s.heap.objs.size:=bC ho;refine aA (listItems_at ho rfl ?_);refine aA (listUpdate_at ho rfl ?_);obtain⟨e1,MJ⟩:∃e1,(s.heap.update a (Obj.mapSeq λ_=>#[])).get? a=some (seqObj "list" #[] e1):=⟨_,get?_update_seq ho (λ_=>#[])⟩;refine aA (seqEpoch_at MJ rfl ?_);refine aA (wpAny_newTuple ?_);refine aA (wpAny_newList ?_);refine jZ ?_;have ho6:(((s.heap.update a (Obj.mapSeq λ_=>#[])).push (seqObj "tuple" vs.toArray 0)).push (seqObj "list" #[] 0)).get? a=some (seqObj "list" #[] e1):=by
  rw [Heap.get?_push_ne _ _ _ (by rw [size_push',Heap.size_update];exact bU (rp ha)),Heap.get?_push_ne _ _ _ (by rw [Heap.size_update];exact bU ha)];exact MJ
 show wpAny 150 A _ P E { s with heap:=((s.heap.update a (Obj.mapSeq λ_=>#[])).push (seqObj "tuple" vs.toArray 0)).push (seqObj "list" #[] 0) };dsimp only;have h2:vs.toArray.size < 2:=by simpa using h1
 rw [aw h2,aw h2];refine aA (aH ?_);rw [StateT.run_pure];refine aA (aH ?_);dsimp only;refine aA (seqEpoch_at ho6 rfl ?_);refine aA (listUpdate_at ho6 rfl ?_ (hsz2:=by rw [Array.size_map];show (pairsOf vs).size<=_;rw [pairsOf_size,mj];omega));simp only [bne_self_eq_false,wb,if_false];exact aH h
end
def DV:∀(vs:z0n),((pairsOf vs).map (·.2))=vs.toArray:=λvs=>by
 apply Array.toList_inj.mp;rw [Array.toList_map,pairsOf_toList,List.map_snd_zip (aG _)]
end L2
namespace M21
theorem mK {α:Type} [DecidableEq α]:∀(l m:List α),l.Nodup->(∀z∈l,z∈m)->l.length<=m.length
 | [],m,_,_=>gp _
 | a::l,m,hn,h=>by
  have hm:=h a cR;have:=mK l (m.erase a) (g_.mp hn).2 λx hx=>(List.mem_erase_of_ne (λz:x=a=>(g_.mp hn).1 (by rw [<-z];exact hx))).mpr (h x (cS _ hx));rw [Ao hm] at this;have:=Ai hm;rw [dI];omega
end M21
namespace L2
open PySem
def A9 {X:Cx}(K:bp)(hu:X.A.units+1 < cLine)(hK:X.K=K:=by rfl):ng X (compareOp .NotIn) (Rr K true):=by
 subst hK;exact DW hu
end L2
namespace g9
open PySem L2 M11
abbrev xp:Stmt:=top 54
def PJ (ns:z0t)(ru:ax) (pl:Nat):Prop:=∀x∈ru.2.take pl,x∈ns
inductive iD (aa:83) (ns:z0t)(w:Str):Str->Prop
 | word {ru:ax}{pl:Nat}:ru∈aa->PJ ns ru pl->ru.2[pl]?=some w->w∉hm aa->iD aa ns w ru.1
 | name {ru:ax}{pl:Nat}{p:Str}:ru∈aa->PJ ns ru pl->ru.2[pl]?=some p->iD aa ns w p->iD aa ns w ru.1
def iD.head {aa:83}{ns:z0t}{w h:Str}(b:iD aa ns w h):h∈hm aa:=by
 cases b with
 | word hr _ _ _=>exact bY.mpr ⟨_,hr,rfl⟩
 | name hr _ _ _=>exact bY.mpr ⟨_,hr,rfl⟩
def iD.text {aa:83}{ns:z0t}{w h:Str}(b:iD aa ns w h):w∉hm aa/\∃ru∈aa,w∈ru.2:=by
 induction b with
 | word hr _ e n=>exact⟨n,_,hr,cC e⟩
 | name _ _ _ _ ih=>exact ih
def iD.congr {aa:83}{ns ms:z0t}{w h:Str}(c:∀x,x∈ns->x∈ms)(b:iD aa ns w h):iD aa ms w h:=by
 induction b with
 | word hr o e n=>exact .word hr (λx hx=>c x (o x hx)) e n
 | name hr o e _ ih=>exact .name hr (λx hx=>c x (o x hx)) e ih
def ClI (aa:83) (ns:z0t)(P:z0i):Prop:=∀ru∈aa,∀pl p,ru.2[pl]?=some p->PJ ns ru pl->(p∉hm aa->(ru.1,p)∈P)/\(p∈hm aa->∀w,(p,w)∈P->(ru.1,w)∈P)
def iD.in_ {aa:83}{ns:z0t}{P:z0i}(c:ClI aa ns P){w h:Str}(b:iD aa ns w h):(h,w)∈P:=by
 induction b with
 | word hr o e n=>exact(c _ hr _ _ e o).1 n
 | name hr o e b ih=>exact(c _ hr _ _ e o).2 b.head _ ih
def Js (aa:83) (ns:z0t)(ru:ax)(P P':z0i):Prop:=∀pl p,ru.2[pl]?=some p->PJ ns ru pl->(p∉hm aa->(ru.1,p)∈P')/\(p∈hm aa->∀w,(p,w)∈P->(ru.1,w)∈P')
def Js.mono {aa:83}{ns:z0t}{ru:ax}{P0 P P' P2:z0i}(d:Js aa ns ru P P')(h1:∀x∈P0,x∈P)(h2:∀x∈P',x∈P2):Js aa ns ru P0 P2:=λpl p e o=>⟨λn=>h2 _ ((d pl p e o).1 n),λm w hw=>h2 _ ((d pl p e o).2 m w (h1 _ hw))⟩
def UD (aa:83) (ns:z0t)(ru:ax)(P P':z0i) (n:Nat):Prop:=∀pl p,pl < n->ru.2[pl]?=some p->PJ ns ru pl->(p∉hm aa->(ru.1,p)∈P')/\(p∈hm aa->∀w,(p,w)∈P->(ru.1,w)∈P')
def Jn (K:bp)(H:Hp)(t:Addr)(p:Str×Str):Prop:=aY K H t [.str p.1,.str p.2]
theorem Paired.Jc {α β:Type}{F:α->β->Prop}:∀{xs:List α}{ys:List β}{Fh:List α}{QM:List β},Paired F xs ys->Paired F Fh QM->Paired F (xs++Fh) (ys++QM)
 | _,_,_,_,.nil,h=>h
 | _,_,_,_,.cons a r,h=>.cons a (Paired.Jc r h)
def kJ {α:Type}(p:α->Bool){l:List α}{m:Nat}{q:α}(e:l[m]?=some q):(l.take (m+1)).filter p=(l.take m).filter p++if p q=true then [q] else []:=by
 rw [cO,e,pQ]
 congr 1
 by_cases cz:p q=true
 .rw [aw cz];show List.filter _ [q]=[q];rw [oQ,aw cz];rfl
 rw [ar cz];show List.filter _ [q]=[];rw [oQ,ar cz];rfl
def kS (bq:z0i)(h:Str) (oV:z0t):z0i:=(oV.filter λx=>!decide ((h,x)∈bq)).map λx=>(h,x)
def sQ {bq:z0i}{h:Str}{oV:z0t}{x:Str×Str}:x∈kS bq h oV↔x.1=h/\x.2∈oV/\x∉bq:=by
 unfold kS;rw [bY];constructor
 .rintro⟨y,hy,rfl⟩;obtain⟨a,b⟩:=gF.mp hy;exact⟨rfl,a,by simpa using b⟩
 rintro⟨e,a,b⟩;have ex:x=(h,x.2):=by rw [<-e]
 exact⟨x.2,gF.mpr ⟨a,by rw [<-ex,fg b];rfl⟩,ex.symm⟩
def KU {bq:z0i}{h:Str}{oV:z0t}(n:bq.Nodup)(n2:oV.Nodup):(bq++kS bq h oV).Nodup:=by
 refine iI.mpr ⟨n,?_,λa ha b hb z=>(sQ.mp hb).2.2 (z ▸ ha)⟩;unfold kS;have:(oV.filter λx=>!decide ((h,x)∈bq)).Nodup:=List.Nodup.sublist List.filter_sublist n2;exact List.Pairwise.map _ (λa b (c:a≠b) z=>c (by injection z)) this
def Og {bq:z0i}(pt:Str)(n:bq.Nodup):((bq.filter λq=>decide (q.1=pt)).map (·.2)).Nodup:=by
 have h:(bq.filter λq=>decide (q.1=pt)).Nodup:=List.Nodup.sublist List.filter_sublist n;have h2:∀q∈bq.filter (λq=>decide (q.1=pt)),q.1=pt:=λq hq=>cW (gF.mp hq).2;generalize bq.filter (λq=>decide (q.1=pt))=l at h h2
 induction l with
 | nil=>exact gE
 | cons a l ih =>
  obtain⟨n1,n3⟩:=g_.mp h;refine g_.mpr ⟨λz=>?_,ih n3 λq hq=>h2 q (.tail _ hq)⟩;obtain⟨b,hb,eb⟩:=bY.mp z;have e1:=h2 a (.head _);have e2:=h2 b (.tail _ hb);exact n1 ((gN (e1.trans e2.symm) eb.symm:a=b) ▸ hb)
structure Nd (K:bp)(aa:83) (ns:z0t)(H H5:Hp)(Dh De Lp:Addr)(us:z0q)(bq:z0i):Prop where
 sm:aD H H5
 eH:H5 Dh=some (.lst ((hm aa).map V.str))
 eE:H5 De=some (.lst (ns.map V.str))
 eP:H5 Lp=some (.lst (us.map V.ref))
 fP:H Lp=none
 pP:Paired (Jn K H5) us bq
 nd:bq.Nodup
 bg:∀x∈bq,iD aa ns x.2 x.1
def Jn.same {K:bp}{H H':Hp}{t:Addr}{p:Str×Str}(s:aD H H')(h:Jn K H t p):Jn K H' t p:=s.tup h
theorem Nd.same {K:bp}{aa:83}{ns:z0t}{H H5 H6:Hp}{Dh De Lp:Addr}{us:z0q}{bq:z0i}(h:Nd K aa ns H H5 Dh De Lp us bq)(s:aD H5 H6):Nd K aa ns H H6 Dh De Lp us bq :=
 ⟨h.sm.trans s,s _ _ h.eH,s _ _ h.eE,s _ _ h.eP,h.fP,Paired.b_ h.pP λ_ _ z=>z.same s,h.nd,h.bg⟩
section
def yB (K:bp):Sp:=λvs H Q _=>∃(R:Addr)(rs:z0q)(aa:83),vs=[.ref R]/\aI K H R 146/\bK K H rs aa/\Small aa/\(∀bq:z0i,bq.Nodup->(∀x∈bq,iD aa (bS false aa) x.2 x.1)->bq.length<=63) /\
 ∀(D:Addr)(us:z0q)(bq:z0i)(H':Hp),H D=none->aD H H'->H' D=some (.lst (us.map V.ref))->Paired (Jn K H') us bq->bq.Nodup->(∀x,x∈bq↔iD aa (bS false aa) x.2 x.1)->Q (.ref D) H'
abbrev NBg:z0t:=["_law_rules","_law_heads","_law_empty","_law_pairs","_law_many","_law_head","_law_parts_here","_law_k","_law_words_here"]
def fk:aK NBg ["_law_rules"] (ay xp):=152
def Ee (F:ir K "_law_begins" "_law_begins" xp f fd)(T:Txt mg)(GE:aF P w K mg base 1 "_law_ended" ["_law_rules","_law_words_here"] (qB K)):bR P w K mg base fK 2 f fd ["_law_rules"] (yB K):=by
 refine F.ok fk 157 161
 .obtain⟨R,rs,aa,rfl,_⟩:=h;rfl
 obtain⟨R,rs,aa,rfl,hR,cI,qo,qO,q⟩:=h;have hu:=fY hr;refine⟨_,ai (gT (iy:=1) ["_law_head","_law_parts_here"] [] fk.nd rfl rfl rfl (aR (pv 0)) (aS rfl rfl) nofun rfl nofun
   221 177 (λ_ _ _ _ _=>pv 0))
  (ai (az (i:=2) fk.nd rfl (Or.inr rfl) (bu GE hr rfl (ab (pv 0) (ab fq ak))))
  (ai (az (i:=3) fk.nd rfl (Or.inr rfl) (bM ak))
  (ai (az (i:=4) fk.nd rfl 84 (yK rQ av))
  (ai (ip bV (a_ lV (pv 4) (aP aU rfl T.len ff (ab (pv 3) ak)) (cx _))
   (ai (az (i:=4) fk.nd rfl 84 (aP aU rfl T.len ff (ab (pv 3) ak)))
   (ao (bJ bV rfl (aR (pv 0)) (gq rfl (aB (aq (i:=5) fk.nd rfl (Or.inr rfl)) (aB (aq (i:=6) fk.nd rfl (Or.inr rfl)) bH)))
    (ao (bJ bV rfl (ib rfl T.Fl (ab (aP aU rfl T.len ff (ab (pv 6) ak)) ak)) (aq (i:=7) fk.nd rfl (Or.inr rfl))
     (ao (cq (gS (aP (dX rfl) rfl T.all boot_all (ab (aV ["_law_part"] [(2,"_law_empty")] rfl (eV (dW iY (pv 6) gW (eU (pv 7)))) (aS rfl rfl) nofun rfl nofun
       (λ_ _ _ _ _=>aq (i:=0) (show (["_law_part","_law_empty"]:z0t).Nodup by decide +kernel) rfl 84) 177 (λ_ _ _ _ _=>fJ (dQ K) (pv 0) (pv 1) rfl)) ak)))
      (ai (az (i:=8) fk.nd rfl 84 (bM (ab (ba bE (pv 6) (pv 7) 137) ak)))
      (ai (ie (cq (a_ jt (ba bE (pv 6) (pv 7) 137) (pv 1) rfl)
       (ao (gT (iy:=8) ["_law_name","_law_word"] [(6,"_law_parts_here"),(7,"_law_k")] fk.nd rfl rfl rfl (aR (pv 3)) (aS rfl rfl) nofun rfl nofun
        (λ_ _ _ _ _=>dF (n:=2) K rfl (aB (aq (i:=0) (show (["_law_name","_law_word","_law_parts_here","_law_k"]:z0t).Nodup by decide +kernel) rfl 84) (aB (aq (i:=1) (show (["_law_name","_law_word","_law_parts_here","_law_k"]:z0t).Nodup by decide +kernel) rfl 84) bH)))
        (λ_ _ _ _ _=>gb (a_ kR (pv 0) (ba (qL K) (pv 2) (pv 3) 137) (cx _))) (λ_ _ _ _ _=>pv 1))) a7))
      (ao (az (i:=3) fk.nd rfl (Or.inr rfl) (aQ jb (pv 3) (aV ["_law_word"] [(5,"_law_head"),(3,"_law_pairs")] rfl (aR (pv 8)) (aS rfl rfl) nofun rfl nofun
       (λ_ _ _ _ _=>aq (i:=0) (show (["_law_word","_law_head","_law_pairs"]:z0t).Nodup by decide +kernel) rfl 84) (λ_ _ _ _ _=>gb (a_ (A9 K hu) (bW (ab (pv 1) (ab (pv 0) ak))) (pv 2) rfl)) (λ_ _ _ _ _=>bW (ab (pv 1) (ab (pv 0) ak))))))))) a7))))))))
  (ao (br (pv 3))))))),?_⟩
 have ll:=bc cI;have hn1:=qo.one;have hn8:=qo.most;refine⟨_,rfl,R,rfl,⟨_,hR⟩,λDh Y8=>iU hR cI ∅ Y8 λH1 s1 VT=>?_⟩;refine goN ?_;refine⟨_,rfl,R,rs,aa,false,rfl,s1.seq hR,cI.same s1,qo,λDe H2 hDe s2 e2 l2=>?_⟩;have ou:=s2 _ _ VT;generalize uj:bS false aa=ns at *;refine⟨uo,λL0 hL0=>?_⟩;have k3:=af hL0 132;have e3:upd H2 L0 132 L0=some 132:=ae;have fL0:H L0=none:=(s1.trans s2).free hL0;generalize upd H2 L0 132=H3 at k3 e3;have S0:Nd K aa ns H H3 Dh De L0 [] []:=⟨(s1.trans s2).trans k3,k3 _ _ ou,k3 _ _ e2,e3,fL0,.nil,gE,λ_ h=>by cases h⟩;refine⟨1,rfl,?_⟩;refine⟨λm σ H5=>∃(Lp:Addr)(us:z0q)(bq:z0i) (many:Int)(y5 y6 y7 y8:Option V),σ=[aE R,aE Dh,aE De,aE Lp,some (.int many),y5,y6,y7,y8]/\Nd K aa ns H H5 Dh De Lp us bq/\-1<=many/\many<=bq.length/\(many=bq.length->ClI aa ns bq)/\(m:Int)=65 - many,
  ⟨66,L0,[],[],-1,none,none,none,none,rfl,S0,∅,85,85,85⟩,?_⟩
 rintro m σ H5 ⟨Lp,us,bq,many,y5,y6,y7,y8,rfl,S,b1,b2,cl,em⟩;have RS:=bc S.pP;refine⟨_,rfl,_,rfl,Lp,_,rfl,.inl (aI.of S.eP),_,_,rfl,rfl,_,rfl,?_⟩;refine 184
 .have c':=cW c;rw [au,RS] at c';refine⟨λσ H6=>∃(Lp:Addr)(iX:z0q)(ext:z0i)(y5 y6 y7 y8:Option V),σ=[aE R,aE Dh,aE De,aE Lp,some (.int (bq.length:Int)),y5,y6,y7,y8]/\Nd K aa ns H H6 Dh De Lp iX (bq++ext)/\∀ru∈aa,Js aa ns ru bq (bq++ext),?_,?_⟩
  .rintro σ H6 ⟨QE,iX,ext,y5,y6,y7,y8,rfl,S2,dd⟩;have f2:=qO _ S2.nd S2.bg;rw [a8] at f2;refine⟨(65 - bq.length:Int).toNat,∅,QE,iX,bq++ext,_,_,_,_,_,rfl,S2,∅,by rw [a8];omega,λz=>?_,∅⟩;rw [a8] at z;have:ext=[]:=List.eq_nil_of_length_eq_zero ∅;subst this;rw [d_] at dd ⊢;exact λru iq pl p e o=>dd ru iq pl p e o
  refine⟨_,rfl,Lp,_,rfl,.inl (aI.of S.eP),?_⟩;rw [au,RS];refine⟨_,rfl,R,rfl,⟨_,S.sm.seq hR⟩,?_⟩;refine bP (xs:=138) (λi σ H6=>∃(Lp:Addr)(iX:z0q)(ext:z0i)(y5 y6 y7 y8:Option V),σ=[aE R,aE Dh,aE De,aE Lp,some (.int (bq.length:Int)),y5,y6,y7,y8]/\Nd K aa ns H H6 Dh De Lp iX (bq++ext)/\∀ru∈aa.take i,Js aa ns ru bq (bq++ext))
   ⟨Lp,us,[],_,_,_,_,rfl,by rw [d_];exact S,λru iq=>by simp at iq⟩ ?_ ?_ ?_
  .rintro i σ H6 _ ⟨QE,iX,ext,y5,y6,y7,y8,rfl,S2,_⟩;exact S2.sm.seq hR
  .rintro i x σ H6 ex ⟨QE,iX,ext,y5,y6,y7,y8,rfl,S6,dd⟩;rw [a0] at ex;obtain⟨r,er,rfl⟩:=b0.mp ex;obtain⟨ru,e1,p,v1,v2⟩:=cI.get er;have iq:=cC e1;have OW:=qo.qO ru iq;have tk:aa.take (i+1)=aa.take i++[ru]:=by rw [cO,e1];rfl
   refine⟨r,_,rfl,S6.sm.tup v1,rfl,_,_,rfl,_,_,rfl,rfl,?_⟩;refine⟨_,rfl,p,_,rfl,.inr (S6.sm.tup v2),_,rfl,151,151,?_⟩;rw [au,ji];refine jC (n:=ru.2.length) (λj σ H7=>∃(Lp:Addr)(iX:z0q)(iH:z0i)(y7 y8:Option V),σ=[aE R,aE Dh,aE De,aE Lp,some (.int (bq.length:Int)),some (.str ru.1),aE p,y7,y8]/\Nd K aa ns H H7 Dh De Lp iX (bq++(ext++iH))/\UD aa ns ru bq (bq++(ext++iH)) j) ⟨QE,iX,[],_,_,rfl,by rw [d_];exact S6,λpl pp l=>absurd l (mx _)⟩ ?_ ?_
   .rintro j σ H7 hj ⟨Nb,wJ,iH,y7,y8,rfl,S7,VW⟩;have WJ:∀x∈bq,x∈bq++(ext++iH):=λx hx=>eI _ hx;generalize Sw:bq++(ext++iH)=o6 at *;obtain⟨pt,VG⟩:∃pt,ru.2[j]?=some pt:=⟨_,df hj⟩;have atp:pK (ru.2.map V.str) (0+(j:Int))=some (.str pt):=by
     rw [i8];exact cK (by rw [a0,VG];rfl)
    have cut:g8 (ru.2.map V.str) none (some (0+(j:Int)))=(ru.2.take j).map V.str:=by
     rw [i8];unfold g8;rw [show HT.fM (ru.2.map V.str).length 0 none=0 from rfl,HT.lF,rf,Nat.sub_zero,mq,<-List.take_eq_take_min]
    refine goN ?_;refine⟨_,rfl,_,rfl,_,rfl,p,_,rfl,S7.sm.tup v2,λp2 H8 s8 Tx=>?_⟩;rw [cut] at Tx;refine⟨p2,rfl,⟨_,Tx⟩,λD9 yi=>gH (zs:=ru.2.take j) [aE De] (λz=>decide (z∈ns)) rfl Tx (by rw [dJ];omega) yi (λz _ HA Qy sA hq=>?_) λH9 s9 e9=>?_⟩
    .refine⟨_,rfl,_,rfl,De,_,rfl,.inl (aI.of (sA _ _ (s8 _ _ S7.eE))),rfl,bZ _,?_⟩;rw [dG];exact hq
    have S9:=S7.same (s8.trans s9);refine⟨D9,_,rfl,aI.of e9,_,rfl,?_⟩;rw [all_map];cases ca:(ru.2.take j).all λx=>decide (x∈ns) with
    | false =>
     refine iS ?_;refine⟨Nb,wJ,iH,_,_,rfl,by rw [Sw];exact S9,?_⟩;rw [Sw];intro pl pp l e o;by_cases cj:pl < j
     .exact VW pl pp cj e o
     have:pl=j:=by omega
     subst this;rw [eG.mpr λx hx=>cE (o x hx)] at ca;cases ca
    | true =>
     have opj:PJ ns ru j:=λx hx=>cW (eG.mp ca x hx);refine By ?_;refine⟨_,rfl,_,rfl,p,_,_,_,rfl,rfl,S9.sm.tup v2,atp,Fg,λDw hDw=>?_⟩;have kA:=af hDw (.lst [V.str pt]);have eA:upd H9 Dw (.lst [V.str pt]) Dw=some (.lst [V.str pt]):=ae;generalize upd H9 Dw (.lst [V.str pt])=HA at kA eA;have SA:=S9.same kA;have lf:=qO o6 SA.nd SA.bg;have XN:=bc SA.pP;refine⟨λσ HB=>∃(Dv:Addr) (oV:z0t),σ=[aE R,aE Dh,aE De,aE Nb,some (.int (bq.length:Int)),some (.str ru.1),aE p,some (.int (0+(j:Int))),aE Dv]/\aD HA HB/\HB Dv=some (.lst (oV.map V.str))/\oV.Nodup/\oV.length<=64/\(pt∉hm aa->oV=[pt])/\(pt∈hm aa->∀x,x∈oV↔(pt,x)∈o6),?_,?_⟩
     .refine⟨_,rfl,_,rfl,p,_,_,_,rfl,rfl,SA.sm.tup v2,atp,_,rfl,Dh,_,rfl,.inl (aI.of SA.eH),rfl,bZ _,_,rfl,?_⟩;rw [dG];refine cf (λcc=>?_) (λcc=>?_)
      .have qp:pt∈hm aa:=cW cc;refine⟨_,rfl,Nb,rfl,⟨_,aI.of SA.eP⟩,λDA Qj=>bT (xs:=wJ.map V.ref) (λm ys σ2 HC=>ys=(((o6.take m).filter λq=>decide (q.1=pt)).map λq=>V.str q.2)/\(∃y0 y1,σ2=[y0,y1,aE p,some (.int (0+(j:Int)))])/\aD HA HC/\HC DA=some (.lst ys)) ⟨rfl,⟨none,none,rfl⟩,af Qj _,ae⟩ (λm ys σ2 HC _ h=>?_) (λm x ys σ2 HC ex h=>?_) (λys σ2 HC h=>?_)⟩
       .obtain⟨_,_,sm,_⟩:=h;exact aI.of (sm _ _ SA.eP)
       .obtain⟨rfl,⟨y0,y1,rfl⟩,sm,eD⟩:=h;rw [a0] at ex;obtain⟨u,eu,rfl⟩:=b0.mp ex;have lm:=(bw.mp eu).1;obtain⟨qq,Tw⟩:∃qq,o6[m]?=some qq:=⟨_,df ∅⟩;obtain⟨u',Tr,vu⟩:=Paired.at_ SA.pP m qq Tw;rw [eu] at Tr;cases Tr;have QO:=kJ (λq:Str×Str=>decide (q.1=pt)) Tw;have lfq:((o6.take m).filter λq=>decide (q.1=pt)).length<=64:=gr (jk _ _) (by rw [dJ];omega);refine⟨u,_,rfl,sm.tup vu,rfl,_,_,rfl,_,_,rfl,rfl,?_⟩;refine⟨_,rfl,_,rfl,_,rfl,p,_,_,_,rfl,rfl,(SA.sm.trans sm).tup v2,atp,rfl,_,rfl,?_⟩;have dv:decide (V.str qq.1=V.str pt)=decide (qq.1=pt):=by
         by_cases c:qq.1=pt
         .rw [c,cE rfl,cE rfl]
         rw [fg c,fg (λz=>c (by injection z))]
        rw [dv];refine cf (λc3=>?_) (λc3=>?_)
        .refine⟨_,rfl,eD,176,?_,⟨_,_,rfl⟩,λb o hb=>?_,ae⟩
         .rw [QO,aw c3,bj];rfl
         rw [aj (λz=>by rw [z,Qj] at hb;cases hb)];exact sm b o hb
        exact⟨by rw [QO,ar c3,d_],⟨_,_,rfl⟩,sm,eD⟩
       obtain⟨rfl,_,sm,eD⟩:=h;rw [au,XN,cw] at eD;refine goN ?_;refine⟨DA,(o6.filter λq=>decide (q.1=pt)).map (·.2),rfl,sm,by rw [eD,fc];rfl,Og pt SA.nd,by rw [au];exact gr (jk _ _) (Nat.le_succ_of_le lf),λh=>absurd qp h,λ_ x=>?_⟩;rw [bY];constructor
       .rintro⟨q2,Sv,rfl⟩;obtain⟨a1,a2⟩:=gF.mp Sv;rw [<-cW a2];exact a1
       exact λhx=>⟨(pt,x),gF.mpr ⟨hx,cE rfl⟩,rfl⟩
      have nin:pt∉hm aa:=λz=>cc (cE z);exact⟨Dw,[pt],rfl,aD.refl _,eA,85,85,λ_=>rfl,λh=>absurd h nin⟩
     rintro σ HB ⟨Dv,oV,rfl,sB,eB,nw,lw,w1,w2⟩;have SB:=SA.same sB;refine⟨_,rfl,_,rfl,Dv,rfl,⟨_,aI.of eB⟩,λDC Qi=>bT (xs:=oV.map V.str) (λm ys σ2 HC=>(∃vs:z0q,ys=vs.map V.ref/\Paired (Jn K HC) vs (kS o6 ru.1 (oV.take m)))/\(∃y0,σ2=[y0,some (.str ru.1),aE Nb])/\aD HB HC/\HC DC=some (.lst ys)) ⟨⟨[],rfl,.nil⟩,⟨none,rfl⟩,af Qi _,ae⟩ (λm ys σ2 HC _ h=>?_) (λm x ys σ2 HC ex h=>?_) (λys σ2 HC h=>?_)⟩
     .obtain⟨_,_,sm,_⟩:=h;exact aI.of (sm _ _ eB)
     .obtain⟨⟨vs,rfl,pv⟩,⟨y0,rfl⟩,sm,eD⟩:=h;rw [a0] at ex;obtain⟨wd,VE,rfl⟩:=b0.mp ex;have lvs:=bc pv;have lnp:(kS o6 ru.1 (oV.take m)).length<=64:=by
       unfold kS;rw [au];exact gr (jk _ _) (by rw [dJ];omega)
      have tkw:kS o6 ru.1 (oV.take (m+1))=kS o6 ru.1 (oV.take m)++if (!decide ((ru.1,wd)∈o6))=true then [(ru.1,wd)] else []:=by
       unfold kS;rw [kJ _ VE,bj]
       congr 1
       split <;> rfl
      refine goN ?_;refine⟨_,rfl,_,rfl,qi,λu1 OA=>?_⟩;have kD:=af OA (.tup [V.str ru.1,V.str wd]);have eu1:aY K (upd HC u1 (.tup [V.str ru.1,V.str wd])) u1 [.str ru.1,.str wd]:=aY.of ae;generalize upd HC u1 (.tup [V.str ru.1,V.str wd])=HD at kD eu1;have SD:=SB.same (sm.trans kD);have TN:=kD _ _ eD;refine⟨_,rfl,u1,Nb,(ru.1,wd),wJ,o6,rfl,rfl,eu1,aI.of SD.eP,SD.pP,_,rfl,?_⟩;show if (!decide ((ru.1,wd)∈o6))=true then _ else _;refine cf (λcc=>?_) (λcc=>?_)
      .refine⟨_,rfl,_,rfl,qi,λu2 Ve=>?_⟩;have kE:=af Ve (.tup [V.str ru.1,V.str wd]);have eu2:aY K (upd HD u2 (.tup [V.str ru.1,V.str wd])) u2 [.str ru.1,.str wd]:=aY.of ae;generalize upd HD u2 (.tup [V.str ru.1,V.str wd])=HE at kE eu2;have ZU:=kE _ _ TN;refine⟨ZU,176,⟨vs++[u2],by rw [bj];rfl,?_⟩,⟨_,rfl⟩,λb o hb=>?_,ae⟩
       .rw [tkw,aw cc];exact gk (Paired.b_ pv λa b z=>bz ZU ((kD.trans kE).tup z)) (bz ZU eu2)
       rw [aj (λz=>by rw [z,Qi] at hb;cases hb)];exact kE _ _ (kD _ _ (sm b o hb))
      exact⟨⟨vs,rfl,by rw [tkw,ar cc,d_];exact Paired.b_ pv λa b z=>kD.tup z⟩,⟨_,rfl⟩,sm.trans kD,TN⟩
     obtain⟨⟨vs,rfl,pv⟩,_,sm,eD⟩:=h;rw [au,cw] at pv;have SC:=SB.same sm;have lvs:=bc pv;have lnp:(kS o6 ru.1 oV).length<=64:=by
      unfold kS;rw [au];exact gr (jk _ _) lw
     refine⟨Nb,DC,wJ.map V.ref,vs.map V.ref,rfl,rfl,SC.eP,eD,fits (by rw [au,au];omega),λL4 hL4=>?_⟩;have kF:=af hL4 (.lst (wJ.map V.ref++vs.map V.ref));have eF:upd HC L4 (.lst (wJ.map V.ref++vs.map V.ref)) L4=some (.lst ((wJ++vs).map V.ref)):=by rw [ae,bj]
     generalize upd HC L4 (.lst (wJ.map V.ref++vs.map V.ref))=HF at kF eF;have SF:=SC.same kF;have bgn:∀x∈o6++kS o6 ru.1 oV,iD aa ns x.2 x.1:=λx hx=>by
      rcases bO.mp hx with h | h
      .exact SF.bg x h
      obtain⟨z1,z2,_⟩:=sQ.mp h;rw [z1];by_cases hp:pt∈hm aa
      .exact .name iq opj VG (SF.bg _ ((w2 hp x.2).mp z2))
      have h1:=w1 hp;rw [h1] at z2;rw [bA.mp z2];exact .word iq opj VG hp
     have fZ:∀x∈oV,(ru.1,x)∈o6++kS o6 ru.1 oV:=λx hx=>by
      by_cases hc:(ru.1,x)∈o6
      .exact eI _ hc
      exact dM _ (sQ.mpr ⟨rfl,hx,hc⟩)
     have eap:bq++(ext++(iH++kS o6 ru.1 oV))=o6++kS o6 ru.1 oV:=by rw [<-Sw];simp only [iu]
     refine⟨L4,wJ++vs,iH++kS o6 ru.1 oV,_,_,rfl,?_,?_⟩
     .rw [eap];exact⟨SF.sm,SF.eH,SF.eE,eF,SC.sm.free hL4,Paired.Jc SF.pP (Paired.b_ pv λ_ _ z=>kF.tup z),KU SF.nd nw,bgn⟩
     rw [eap];intro pl pp l e o;by_cases cj:pl < j
     .obtain⟨a1,a2⟩:=VW pl pp cj e o;exact⟨λn=>eI _ (a1 n),λh w hw=>eI _ (a2 h w hw)⟩
     have:pl=j:=by omega
     subst this;rw [VG] at e;cases e;refine⟨λn=>fZ pt ?_,λh w hw=>fZ w ((w2 h w).mpr (WJ _ hw))⟩;rw [w1 n];exact bA.mpr rfl
   rintro σ H7 ⟨Nb,wJ,iH,y7,y8,rfl,S7,VW⟩;refine⟨Nb,wJ,ext++iH,_,_,_,_,rfl,S7,λA2 sW=>?_⟩;rw [tk] at sW;rcases bO.mp sW with h | h
   .exact(dd A2 h).mono (λ_ z=>z) λx hx=>by rw [<-iu];exact eI _ hx
   rw [bA.mp h];exact λpl pp e o=>VW pl pp (bw.mp e).1 e o
  rintro σ H6 ⟨QE,iX,ext,y5,y6,y7,y8,rfl,S6,dd⟩;refine⟨QE,iX,ext,_,_,_,_,rfl,S6,λru iq=>dd ru ?_⟩;rw [au,ll,cw];exact iq
 have c':¬(many < (us.map V.ref).length):=λz=>c (cE z);rw [au,RS] at c';have og:=cl ∅;exact⟨_,rfl,q Lp us bq H5 S.fP S.sm S.eP S.pP S.nd (λx=>⟨λh=>S.bg x h,λb=>iD.in_ og b⟩)⟩
end
theorem xM (b:Str->Bool):∀(zs:z0t) (j:Nat),j < uE b zs↔j < zs.length/\∀x∈zs.take j,b x=true
 | [],j=>⟨λh=>absurd h (mx _),λh=>absurd h.1 (mx _)⟩
 | z::r,0=>⟨λ_=>⟨Nat.succ_pos _,λ_ h=>(by cases h)⟩,λ_=>by unfold uE;split <;> omega⟩
 | z::r,j+1=>by
  have ih:=xM b r j;unfold uE;by_cases c:b z=true
  .rw [aw c,rD,dI];constructor
   .intro h;obtain⟨h1,h2⟩:=ih.mp ∅;refine⟨∅,λx hx=>?_⟩;rcases b8.mp hx with e | e
    .rw [e];exact c
    exact h2 x e
   intro h;have:=ih.mpr ⟨∅,λx hx=>h.2 x (cS _ hx)⟩;omega
  rw [ar c,rD];exact⟨λh=>by omega,λh=>absurd (h.2 z cR) c⟩
def Mn {ns:z0t}{ru:ax}{j:Nat}{z:Str}(e:ru.2[j]?=some z):j < uE (λx=>decide (x∈ns)) ru.2↔PJ ns ru j:=by
 rw [xM];exact⟨λh x hx=>cW (h.2 x hx),λh=>⟨(bw.mp e).1,λx hx=>cE (h x hx)⟩⟩
section
variable {aa:83}{ns:z0t}{aW:List Be}
def vT (h:um aa (hd aa) (λz=>decide (z∈ns)) aW):∀x∈bq aW,iD aa ns x.2 x.1:=by
 induction h with
 | nil=>intro x h;cases h
 | @snoc aW k j ru z w h e1 e2 lj hw n ih =>
  intro x hx;unfold bq at hx;rw [bj] at hx;rcases bO.mp hx with q | q
  .exact ih x q
  rw [bA.mp q];have o:=(Mn e2).mp lj;have hr:=cC e1;unfold i9 at hw;by_cases c:z∈hd aa
  .rw [aw c] at hw;exact .name hr o e2 (ih (z,w) (pF.mp hw))
  rw [ar c] at hw;have:=bA.mp hw;subst this;exact .word hr o e2 λy=>c (l_.mp y)
def E3 (c:z5 aa (hd aa) (λz=>decide (z∈ns)) aa.length aW):ClI aa ns (bq aW):=λru hr pl p e o=>by
 obtain⟨k,ek⟩:=gO hr;have lk:=(bw.mp ek).1;have cc:=c k ru lk ek pl p ((Mn e).mpr o) e;unfold i9 at cc;constructor
 .intro n;rw [ar (λy=>n (l_.mpr y))] at cc;exact cc p (bA.mpr rfl)
 intro m w hw;rw [aw (l_.mp m)] at cc;exact cc w (pF.mpr hw)
end
def O4 {aa:83}{ns A B:z0t}(hA:∀ru∈aa,ru.1∈A)(hB:∀ru∈aa,∀x∈ru.2,x∈B)(bq:z0i)(nd:bq.Nodup)(b:∀x∈bq,iD aa ns x.2 x.1):bq.length<=A.length * B.length:=by
 have h:=M21.mK bq (A.flatMap λa=>B.map λw=>(a,w)) nd λx hx=>by
  have bx:=b x hx;obtain⟨_,ru,hr,hw⟩:=bx.text;obtain⟨P4,Qc,e2⟩:=bY.mp bx.head;exact jh.mpr ⟨x.1,e2 ▸ hA P4 Qc,bY.mpr ⟨x.2,hB ru hr _ hw,rfl⟩⟩
 have l:∀l:z0t,(l.flatMap λa=>B.map λw=>(a,w)).length=l.length * B.length:=λl=>by
  induction l with
  | nil=>simp
  | cons a r ih=>rw [pO,a8,ih,au,dI,Nat.succ_mul,Nat.add_comm]
 rw [l] at h;exact h
def Fc.BU {c:Int}{aa:83}(g:Fc c aa) (ns:z0t)(bq:z0i)(nd:bq.Nodup)(b:∀x∈bq,iD aa ns x.2 x.1):bq.length<=63:=by
 obtain⟨cy,nk,i6⟩:=g.ins;have h1:=O4 (A:=cy) (B:=cy++eY c) (λru h=>(i6 ru h).1) (λru h=>(i6 ru h).2.2) bq nd b;have gl:=mW c;have n5:=nk.O3;have h2:cy.length * (cy++eY c).length<=5 * 8:=Nat.mul_le_mul n5 (by rw [a8];omega);omega
end g9
namespace L2
open PySem PySem.Spec PyProof.Rows
open PySem
def Kr {X:Cx}{e:Expr}{f:Str}{pos:Pos}{ta:TE}(K:bp)(he:PE X e ta)(hb:attributeBase e f X.env (eval e X.env)=eval e X.env)(hK:X.K=K:=by rfl):PE X (.Attribute e f pos) (QY K ta f):=by subst hK;exact dr he hb
end L2
namespace g9
open PySem L2 M11
abbrev xl:Stmt:=Mt sr 3
abbrev Gs:Stmt:=Mt sr 4
def LS (K:bp)(b:Bool)(H:Hp)(p:Addr)(xs:List V):Prop:=if b=true then aY K H p xs else aI K H p xs
def LS.same {K:bp}{b:Bool}{H H':Hp}{p:Addr}{xs:List V}(s:aD H H')(h:LS K b H p xs):LS K b H' p xs:=by
 cases b
 .exact s.seq h
 exact s.tup h
def W7 (K:bp)(b:Bool):R2:=λx y H Q=>V0 (LS K b H) x y λv=>Q v H
def PL (names:z0t)(aW:List Be)(b:Str->Bool) (zs:z0t)(w:Str):Prop:=∃j z,zs[j]?=some z/\j < uE b zs/\w∈i9 names aW z
def MU (kE:87)(z:Str):Bool:=(aZ kE 139).isSome
def nr (names:z0t)(aW:List Be)(z:Str):(i9 names aW z).length<=aW.length+1:=by
 unfold i9
 split
 .have:=IF aW z;omega
 show 1<=_;omega
def ox (a:z0t)(h:Str):(gM a h).length<=a.length+1:=by
 unfold gM
 split
 .omega
 rw [a8];exact aG _
section
def X_ {X:Cx}(b:Bool):QF X (W7 X.K b):=by
 cases b
 .exact cU
 exact bE
def Rb (K:bp)(b:Bool):Sp:=λvs H Q _=>∃(p d:Addr) (zs:z0t)(kvs:87),vs=[.ref p,.ref d]/\LS K b H p (148)/\zs.length<=1000/\H d=162 /\
 ∀D H',H D=none->aD H H'->H' D=some (.lst (cnt (uE (λz=>(aZ kvs 139).isSome) zs)))->Q (.ref D) H'
def CG (K:bp)(C:Addr)(b:Bool):Sp:=λvs H Q _=>∃(H0:Hp)(a e d bg p:Addr)(kE:87)(aL:z0h)(ps:z0f)(aW:List Be) (zs:z0t),vs=[.ref a,.ref p]/\oC K C H0 H a e d bg kE aL ps aW/\LS K b H p (148)/\zs.length<=10/\aW.length<=63 /\
 ∀(D:Addr)(kvs:87) (ks:z0t)(H':Hp),H D=none->aD H H'->H' D=162->kvs.map 82=ks.map Sum.inr->ks.Nodup->(∀w,w∈ks↔PL (ps.map 82) aW (MU kE) zs w)->ks.length<=1000->Q (.ref D) H'
def qD:aK ["self","parts","words","place","word"] ["self","parts"] (ay xl):=152
def Hu (b:Bool){C fW:Addr}{Tn:FuncData}(F:ir K "first_words" "BeginTable.first_words" xl f fd)(T:Txt mg)(B:BC K C)(GP:aF P w K mg base 1 "first_places" ["parts","empty"] (Rb K b))(FW:bR P w K mg base fK 1 fW Tn ["self","part"] (wR K C))(MW:Meth K C "words_of_part" fW)(BW:Binds K Tn ["self","part"] []) :
  bR P w K mg base fK 2 f fd ["self","parts"] (CG K C b):=by
 refine F.ok qD 157 161
 .obtain⟨H0,a,e,d,bg,p,kE,aL,ps,aW,zs,rfl,_⟩:=h;rfl
 obtain⟨H0,a,e,d,bg,p,kE,aL,ps,aW,zs,rfl,S,hp,hz,aaG,q⟩:=h;have hu:=fY hr;refine⟨_,ai (az (i:=2) qD.nd rfl 84 fR)
  (ai (bJ bV rfl (aR (bu GP hr rfl (ab (pv 1) (ab (dr (pv 0) rfl) ak)))) (aq (i:=3) qD.nd rfl 84)
   (ao (bJ bV rfl (aR (nZ (pv 0) B.cls MW FW hr BW .nil lU (ab (ba (X_ b) (pv 1) (pv 3) 137) ak))) (aq (i:=4) qD.nd rfl 84)
    (ao (fC hu (pv 2) (pv 4) fq rfl)))))
  (ao (br (pv 2)))),?_⟩
 refine λW hW=>?_;have k1:=af hW (.dK []);have e1:upd H W (.dK []) W=some (.dK []):=ae;generalize upd H W (.dK [])=H1 at k1 e1;have S1:=S.same k1;obtain⟨dx,fs,ea,f1,f2,f3,f4,f5⟩:=S1.ia;refine⟨_,rfl,_,rfl,a,C,dx,fs,_,rfl,ea,B.cls,B.a2,f1,p,e,zs,kE,rfl,(LS.same k1 hp),∅,S1.he,λD5 H5 f6 s5 e5=>⟨D5,rfl,⟨_,aI.of e5⟩,?_⟩⟩;have nW5:D5≠W:=λz=>by rw [z,e1] at f6;cases f6
 have fle:=BQ (MU kE) zs;change H5 D5=some (.lst (cnt (uE (MU kE) zs))) at e5;generalize hn:uE (MU kE) zs=n at *;refine bP (xs:=cnt n) (λi σ H6=>∃(kvs:87) (ks:z0t)(y3 y4:Option V),σ=[aE a,aE p,aE W,y3,y4]/\aD H H6/\H6 D5=some (.lst (cnt n))/\H6 W=162/\kvs.map 82=ks.map Sum.inr/\ks.Nodup/\ks.length<=64 * i/\∀w,w∈ks↔∃j z,zs[j]?=some z/\j < i/\w∈i9 (ps.map 82) aW z)
  ⟨[],[],none,none,rfl,k1.trans s5,e5,s5 _ _ e1,rfl,gE,gp _,λw=>⟨λh=>(by cases h),λ⟨j,z,_,h,_⟩=>absurd h (mx _)⟩⟩ ?_ ?_ ?_
 .rintro i σ H6 _ ⟨kvs,ks,y3,y4,rfl,s6,e6,_⟩;exact aI.of e6
 .rintro i x σ H6 ex ⟨kvs,ks,y3,y4,rfl,s6,e6,eW,hk,nd,lk,qp⟩;have li:i < n:=by have:=(bw.mp ex).1;rw [qR] at this;exact this
  rw [I9 li] at ex;cases ex;have lz:i < zs.length:=by omega
  obtain⟨z,ez⟩:∃z,zs[i]?=some z:=⟨zs[i],df lz⟩;have JQ:pK (148) (i:Int)=some (.str z):=cK (by rw [a0,ez];rfl);have S2:=S.same s6;obtain⟨Po,qM,Pe,g1,g2,g3,g4,g5⟩:=S2.ia;refine goN ?_;refine⟨_,rfl,a,Po,qM,rfl,Pe,g5.1,_,rfl,_,rfl,p,_,_,_,rfl,rfl,(LS.same s6 hp),JQ,H0,a,e,d,bg,kE,aL,ps,aW,z,rfl,S2,λD6 H7 f7 s7 e7=>⟨D6,rfl,⟨_,aI.of e7⟩,?_⟩⟩;have nW6:D6≠W:=λz=>by rw [z,eW] at f7;cases f7
  have lws:=nr (ps.map 82) aW z;generalize K9:i9 (ps.map 82) aW z=ws at *;refine bP (xs:=ws.map V.str) (λm σ H8=>∃(kvs:87) (Aa:z0t)(y4:Option V),σ=[aE a,aE p,aE W,some (149),y4]/\aD H H8/\H8 D5=some (.lst (cnt n))/\H8 D6=some (.lst (ws.map V.str))/\H8 W=162/\kvs.map 82=Aa.map Sum.inr/\Aa.Nodup/\Aa.length<=64 * i+m/\∀w,w∈Aa↔w∈ks\/w∈ws.take m)
   ⟨kvs,ks,_,rfl,s6.trans s7,s7 _ _ e6,e7,s7 _ _ eW,hk,nd,∅,λw=>⟨.inl,λh=>h.elim id λh=>(by simp at h)⟩⟩ ?_ ?_ ?_
  .rintro m σ H8 _ ⟨kvs,Aa,y4,rfl,s8,e8,e9,_⟩;exact aI.of e9
  .rintro m x σ H8 ex ⟨kvs,Aa,y4,rfl,s8,e8,e9,ZM,Vn,Xv,P8,Ip⟩;rw [a0] at ex;obtain⟨wd,VE,rfl⟩:=b0.mp ex;have lm:=(bw.mp VE).1;have ll:kvs.length=Aa.length:=by have:=congrArg List.length Vn;rw [au,au] at this;exact this
   refine goN ?_;refine⟨_,rfl,_,rfl,W,_,rfl,jX.k (k:=Sum.inr wd) ZM (bB ∅),?_⟩;have la:=ox Aa wd;refine⟨_,gM Aa wd,_,rfl,λb o hb=>?_,by rw [aj nW5];exact e8,by rw [aj nW6];exact e9,ae,iR Vn wd,qS wd Xv,∅,λw=>?_⟩
   .rw [aj (λz=>by rw [z,hW] at hb;cases hb)];exact s8 b o hb
   rw [jF,Ip,cO,VE,bO];constructor
   .rintro((h | h) | h)
    .exact .inl h
    .exact .inr (.inl h)
    exact .inr (.inr (bA.mpr h))
   rintro(h | h | h)
   .exact .inl (.inl h)
   .exact .inl (.inr h)
   exact .inr (bA.mp h)
  rintro σ H8 ⟨kvs,Aa,y4,rfl,s8,e8,e9,ZM,Vn,Xv,P8,Ip⟩;rw [au] at P8 Ip;rw [cw] at Ip;refine⟨kvs,Aa,_,_,rfl,s8,e8,ZM,Vn,Xv,∅,λw=>?_⟩;rw [Ip,qp];constructor
  .rintro(⟨j,z2,h1,h2,h3⟩ | h)
   .exact⟨j,z2,h1,∅,h3⟩
   exact⟨i,z,ez,lQ _,K9 ▸ h⟩
  rintro⟨j,z2,h1,h2,h3⟩;by_cases c:j < i
  .exact .inl ⟨j,z2,h1,c,h3⟩
  have:j=i:=by omega
  subst this;rw [ez] at h1;cases h1;exact .inr (K9 ▸ h3)
 rintro σ H6 ⟨kvs,ks,y3,y4,rfl,s6,e6,eW,hk,nd,lk,qp⟩;rw [qR] at lk qp;refine⟨_,rfl,q W kvs ks H6 hW s6 eW hk nd (λw=>?_) ∅⟩;rw [qp];unfold PL;rw [hn]
def F5 (K:bp)(C:Addr)(b:Bool):Sp:=λvs H Q _=>∃(H0:Hp)(a e d bg p:Addr)(kE:87)(aL:z0h)(ps:z0f)(aW:List Be) (zs:z0t),vs=[.ref a,.ref p]/\oC K C H0 H a e d bg kE aL ps aW/\LS K b H p (148)/\zs.length<=10/\∀H',aD H H'->Q (.bl (zs.all (MU kE))) H'
def Kd:aK ["self","parts"] ["self","parts"] (ay Gs):=152
def Hy {C:Addr}(F:ir K "all_empty" "BeginTable.all_empty" Gs f fd)(T:Txt mg)(B:BC K C):bR P w K mg base fK 1 f fd ["self","parts"] (F5 K C true):=by
 refine F.ok Kd 157 161
 .obtain⟨H0,a,e,d,bg,p,kE,aL,ps,aW,zs,rfl,_⟩:=h;rfl
 obtain⟨H0,a,e,d,bg,p,kE,aL,ps,aW,zs,rfl,S,hp,hz,q⟩:=h;have hu:=fY hr;refine⟨_,ao (br (aP (dX rfl) rfl T.all boot_all (ab (aV ["part"] [(0,"self")] rfl (eV (pv 1)) (aS rfl rfl) nofun rfl nofun
  (λ_ _ _ _ _=>aq (i:=0) (show (["part","self"]:z0t).Nodup by decide +kernel) rfl 84) 177 (λ_ _ _ _ _=>xw (kQ hu (pv 0) (Kr K (pv 1) rfl)))) ak))),?_⟩
 refine⟨_,rfl,p,rfl,⟨_,(show aY K H p (148) from hp)⟩,λD9 yi=>gH (zs:=zs) [aE a] (MU kE) rfl (show aY K H p (148) from hp) ∅ yi (λz _ HA Qy sA hq=>?_) λH9 s9 e9=>?_⟩
 .have SA:=S.same sA;obtain⟨dx,fs,ea,f1,f2,f3,f4,f5⟩:=SA.ia;exact⟨_,rfl,_,rfl,a,C,dx,fs,_,rfl,ea,B.cls,B.a2,f1,e,_,rfl,cg.k (k:=88) SA.he,hq⟩
 refine⟨D9,_,rfl,aI.of e9,?_⟩;rw [all_map];exact q H9 s9
end
end g9
namespace ST
open PySem PySem.Spec PyProof.Rows L2
theorem mI {α β:Type}{R R':α->β->Prop}(f:∀a b,R a b->R' a b):∀{l:List α}{m:List β},Paired R l m->Paired R' l m
 | _,_,.nil=>.nil
 | _,_,.cons a b=>.cons (f _ _ a) (mI f b)
structure Jl {α:Type}(lt:α->α->Bool):Prop where
 xX:∀{a b},lt a b=true->lt b a=false
 total:∀{a b},lt a b=false->lt b a=false->a=b
 Xm:∀{a b c},lt b a=false->lt c b=false->lt c a=false
def Jl.zc {α:Type}{lt:α->α->Bool}(h:Jl lt)(a:α):lt a a=false:=by
 cases e:lt a a with
 | false=>rfl
 | true=>rw [h.xX e] at e;cases e
def lex {α β:Type} [DecidableEq α] (l1:α->α->Bool)(l2:β->β->Bool)(a b:α×β):Bool:=if a.1=b.1 then l2 a.2 b.2 else l1 a.1 b.1
theorem Jl.lex {α β:Type} [DecidableEq α] {l1:α->α->Bool}{l2:β->β->Bool}(h1:Jl l1)(h2:Jl l2):Jl (lex l1 l2):=by
 refine⟨λ{a b} h=>?_,λ{a b} h k=>?_,λ{a b c} h k=>?_⟩
 .unfold ST.lex at *;by_cases e:a.1=b.1
  .rw [aw e] at h;rw [aw e.symm];exact h2.xX h
  rw [ar e] at h;rw [ar (λz=>e z.symm)];exact h1.xX h
 .unfold ST.lex at *;by_cases e:a.1=b.1
  .rw [aw e] at h;rw [aw e.symm] at k;exact gN e (h2.total h k)
  rw [ar e] at h;rw [ar (λz=>e z.symm)] at k;exact absurd (h1.total h k) e
 unfold ST.lex at *;by_cases e1:c.1=a.1
 .rw [aw e1];by_cases e2:b.1=a.1
  .rw [aw e2] at h;rw [aw (e1.trans e2.symm)] at k;exact h2.Xm h k
  rw [ar e2] at h;rw [ar (λz=>e2 (z.symm.trans e1)),e1] at k;exact absurd (h1.total h k) e2
 rw [ar e1];by_cases e2:b.1=a.1
 .rw [ar (λz=>e1 (z.trans e2)),e2] at k;exact k
 rw [ar e2] at h;by_cases e3:c.1=b.1
 .rw [e3];exact h
 rw [ar e3] at k;exact h1.Xm h k
def CW:Jl Fm:=⟨HZ,Eo,λ{a b c} h k=>by
 cases e:Fm c a with
 | false=>rfl
 | true=>rcases KZ (b:=b) e with z | z <;> simp_all⟩
def Vc (a b:Int):Bool:=decide (a < b)
def C0:Jl Vc:=by
 refine⟨λ{a b} h=>?_,λ{a b} h k=>?_,λ{a b c} h k=>?_⟩ <;> simp only [Vc,decide_eq_true_eq,decide_eq_false_iff_not] at * <;> omega
def LR {α:Type}(lt:α->α->Bool)(l:List α):Prop:=l.Pairwise λx y=>lt y x=false
theorem rV {α:Type}{lt:α->α->Bool}(o:Jl lt):∀{l m:List α},LR lt l->LR lt m->l.Perm m->l=m
 | [],m,_,_,p=>by rw [List.nil_perm.mp p]
 | x::r,[],_,_,p=>absurd p.length_eq 135
 | x::r,y::t,h,k,p=>by
  have e:x=y:=by
   have h1:=wj.mp h;have k1:=wj.mp k;rcases b8.mp (p.mem_iff.mp (cR (a:=x) (l:=r))) with e | e
   .exact e
   rcases b8.mp (p.mem_iff.mpr (cR (a:=y) (l:=t))) with e2 | e2
   .exact e2.symm
   exact o.total (k1.1 x e) (h1.1 y e2)
  subst e;rw [rV o (wj.mp h).2 (wj.mp k).2 (List.perm_cons x |>.mp p)]
section
variable {P:Program}{w:World}{A:Around}{E:z0b}{s:Shared}
structure zT (P:Program)(w:World)(K:Type) where
 is:Heap->K->Addr->Prop
 lt:K->K->Bool
 ord:Jl lt
 room:Around->Prop
 keeps:∀{h h':Heap}{k:K}{a:Addr},is h k a->(∀b o xs n,o.cls=.type "tuple" -> o.data=.seq xs n->h.get? b=some o->h'.get? b=some o)->is h' k a
 ask:∀{A:Around}{s:Shared}{x y:Addr}{d e:K}{Q:Bool->Shared->Prop},room A->is s.heap d x->is s.heap e y->Q (lt d e) s->wpAny (model P w) A (keyLt' (tuples' true) (.ref x) (.ref y)) Q (λ_ _=>False) s
 ty:String
 U2:(Value.type ty != Value.type "tuple")=true
 first:∀{h:Heap}{k:K}{a:Addr},is h k a->∃o xs n f,h.get? a=some o/\o.cls=.type "tuple" /\ o.data=.seq xs n/\xs[0]?=some f/\PySem.W.Looks (model P w) h (typeOf f) (.type ty)
variable {K:Type}{sk:zT P w K}
theorem vw {h:Heap}:∀{ts:z0q}{zs:List K},Paired (λt z=>sk.is h z t) ts zs->∃fs,PySem.W.KatTups h (ts.map Value.ref) fs/\fs.length=ts.length/\∀v∈fs,PySem.W.Looks (model P w) h (typeOf v) (.type sk.ty)
 | _,_,.nil=>⟨[],trivial,rfl,λv h=>by cases h⟩
 | _,_,.cons a b=>by
  obtain⟨fs,h1,h2,h3⟩:=vw b;obtain⟨o,xs,n,f,g1,g2,g3,g4,g5⟩:=sk.first a;refine⟨f::fs,⟨⟨_,o,xs,n,rfl,g1,g2,g3,g4⟩,h1⟩,by simp [h2],λv hv=>?_⟩;rcases b8.mp hv with e | e
  .rw [e];exact g5
  exact h3 v e
def DK {a L:Addr}{m:z0c}{n:Nat}{ts:z0q}{zs:List K}{P':PySem.Fin->Shared->Prop}(R:sk.room A)(uj:s.heap.Ns L m)(ho:s.heap.get? a=some (seqObj "list" (ts.map Value.ref).toArray n))(rel:Paired (λt z=>sk.is s.heap z t) ts zs)(Vz:ts.length < 64)
  (q:∀(h2:Heap) (c:Nat)(rR:z0q)(ug:List K),(∀b u,b≠L->b≠a->s.heap.get? b=some u->h2.get? b=some u)->h2.Ns L m->h2.get? a=some (seqObj "list" (rR.map Value.ref).toArray c)->(∀t' z',(t',z')∈rR.zip ug->(t',z')∈ts.zip zs)->rR.length=ug.length->ug.Perm zs->LR sk.lt ug->P' (.done (.ret .none)) { s with heap:=h2 }) :
  wpAny (model P w) A (Builtin.«list.sort» ⟨[.ref a],[]⟩) P' E s:=by
 have lp:=bc rel;have Y2:a≠L:=λz=>by
  obtain⟨o,es,ep,BG,uC,_⟩:=uj;rw [<-z,ho] at BG;cases BG;cases uC
 by_cases h2:ts.length < 2
 .refine AF ho (by simpa using h2) ?_;rw [DV];obtain⟨e,he⟩:=sortedHeap_at (out:=(ts.map Value.ref).toArray) ho;have keep:∀b u,b≠a->s.heap.get? b=some u->(sortedHeap s.heap a (ts.map Value.ref) (ts.map Value.ref).toArray).get? b=some u:=λb u nb hb=>by
   have lb:=bC hb;rw [sortedHeap_old nb lb];exact hb
  refine q _ e ts zs (λb u _ nb hb=>keep b u nb hb) ?_ he (λ_ _ h=>h) lp (.refl _) ?_
  .obtain⟨o,es,ep,h1,h2⟩:=uj;exact⟨o,es,ep,keep L o (d8 Y2) h1,h2⟩
  match zs,lp with
  | [],_=>exact .nil
  | [_],_=>exact List.pairwise_singleton _ _
  | _::_::_,z=>simp at z;omega
 refine PySem.W.kat_list_sort (h₀:=vX.pb s.heap) (L:=L) (m:=m) (news:=vX.ledger s.heap L a) (vs:=ts.map Value.ref) (vX.IH uj) (λp hp=>(vX.pW Y2 ho) p (cS _ hp)) ho Y2 (vX.jP _ _) (λp hp=>?_) (151) (by rw [au];exact Vz) λe1 h' F' N'=>?_
 .obtain⟨b,u⟩:=p;exact(vX.fV.mp hp).2.1
 have keep:∀b u,b≠L->b≠a->s.heap.get? b=some u->h'.get? b=some u:=λb u nb na hb=>(N' (b,u) (cS _ (vX.fV.mpr ⟨nb,na,hb⟩))).1;have X5:∀b o xs n,o.cls=.type "tuple" -> o.data=.seq xs n->158->h'.get? b=some o:=λb o xs n c d hb=>by
  refine keep b o ?_ ?_ hb
  .rintro rfl;obtain⟨o',es,ep,BG,uC,hc,_⟩:=uj;rw [hb] at BG;cases BG;rw [d] at uC;cases uC
  rintro rfl;rw [ho] at hb;cases hb;exact absurd (show Value.type "list"=Value.type "tuple" from c) nofun
 have Ro:Paired (λt z=>sk.is h' z t) ts zs:=mI (λt z i=>sk.keeps i X5) rel;obtain⟨fs,k1,k2,k3⟩:=vw Ro;refine PySem.W.kat_kind (T:=.type sk.ty) k1 ∅ (λv hv=>k3 v hv) 135 ?_;rw [sk.U2,au];have JQ:∀i,i < ts.length->∃t z,ts[i]?=some t/\zs[i]?=some z/\sk.is h' z t:=λi hi=>by
  have e:zs[i]?=some (zs[i]'∅):=df ∅;obtain⟨t,e1,e2⟩:=Paired.at_ Ro i _ e;exact⟨t,_,e1,e,e2⟩
 have ne:ts≠[]:=λz=>by rw [z] at h2;simp at h2
 obtain⟨z0,Vd⟩:∃z0,zs[0]?=some z0:=by
  obtain⟨_,z,_,e,_⟩:=JQ 0 ∅;exact⟨z,e⟩
 refine JZ (n:=ts.length) (lt:=λi j=>sk.lt (zs.getD i z0) (zs.getD j z0)) ⟨λa b c _ _ _ h1 h2=>sk.ord.Xm h1 h2,λa b _ _ h=>sk.ord.xX h⟩ (λi j C hi hj hC=>?_) ∅ λp PP S=>?_
 .obtain⟨ti,zi,g1,g2,g3⟩:=JQ i hi;obtain⟨tj,zj,g4,g5,g6⟩:=JQ j hj;show wpAny _ _ (keyLt' _ ((ts.map Value.ref).getD i Value.none) ((ts.map Value.ref).getD j Value.none)) C _ _;have e1:(ts.map Value.ref).getD i Value.none=.ref ti:=by rw [List.getD,a0,g1];rfl
  have e2:(ts.map Value.ref).getD j Value.none=.ref tj:=by rw [List.getD,a0,g4];rfl
  rw [e1,e2];dsimp only at hC;rw [show zs.getD i z0=zi by rw [List.getD,g2];rfl,show zs.getD j z0=zj by rw [List.getD,g5];rfl] at hC;exact sk.ask R g3 g6 hC
 have JE:=PP.size;have pin:∀i∈p.toList,i < ts.length:=λi hi=>by
  have:i∈(List.range ts.length).toArray:=PP.pm.mem_iff.mp (by simpa using hi);simpa using this
 refine⟨(a,seqObj "list" #[] e1)::vX.ledger s.heap L a,λo'=>(a,o')::vX.ledger s.heap L a,F',N',.head λq hq=>?_,λh2 c F2 N2=>?_⟩
 .obtain⟨b,u⟩:=q;exact(vX.fV.mp hq).2.1
 have Zy:(p.toList.map λi=>(ts.map Value.ref).getD i Value.none)=(p.toList.map λi=>ts.getD i 0).map Value.ref:=by
  rw [fc];exact rC λi hi=>IE ts i (pin i hi)
 rw [Zy] at N2;refine q h2 c (p.toList.map λi=>ts.getD i 0) (p.toList.map λi=>zs.getD i z0) (λb u nb na hb=>(N2 (b,u) (cS _ (vX.fV.mpr ⟨nb,na,hb⟩))).1) F2.ns (N2 (a,_) cR).1 (λt' z' hz=>?_) 135 ?_ ?_
 .rw [List.zip_map',bY] at hz;obtain⟨i,hi,e⟩:=hz;have Vo:=pin i hi;obtain⟨t,z,g1,g2,_⟩:=JQ i Vo;cases e;rw [List.mem_iff_getElem?];refine⟨i,?_⟩;rw [List.getElem?_zip_eq_some];exact⟨by show ts[i]?=some (ts.getD i 0);rw [List.getD,g1];rfl,by show zs[i]?=some (zs.getD i z0);rw [List.getD,g2];rfl⟩
 .have e:zs=(List.range ts.length).map λi=>zs.getD i z0:=by
   refine List.ext_getElem (by simp [lp]) λi h1 h2=>?_;simp [List.getD,h1]
  have pp:p.toList.Perm (List.range ts.length):=by
   have:=PP.pm.toList;simpa using this
  exact(pp.map _).trans (by rw [<-e])
 unfold LR;rw [List.pairwise_map,List.pairwise_iff_getElem];intro i j hi hj zo;have:=S i j ∅ (by simpa [JE] using hj);have e1:at_ p i=p.toList[i]:=by simp [at_,Array.getD,show i < p.size by simpa using hi]
 have e2:at_ p j=p.toList[j]:=by simp [at_,Array.getD,show j < p.size by simpa using hj]
 rw [e1,e2] at this;exact this
end
section
variable {P:Program}{w:World}{A:Around}{E:z0b}{s:Shared}
def zT.wi {K:Type}(sk:zT P w K)(G:K->Addr->Prop):zT P w K where
 is:=λh k a=>sk.is h k a/\G k a
 lt:=sk.lt
 ord:=sk.ord
 room:=sk.room
 keeps:=λx k=>⟨sk.keeps x.1 k,x.2⟩
 ask:=λhu hx hy q=>sk.ask hu hx.1 hy.1 q
 ty:=sk.ty
 U2:=sk.U2
 first:=λx=>sk.first x.1
theorem rK {α β:Type}{R:α->β->Prop}:∀{l:List α}{m:List β},Paired R l m->∀p∈l.zip m,R p.1 p.2
 | _,_,.nil,p,hp=>by cases hp
 | _,_,.cons a b,p,hp=>by
  rw [List.zip_cons_cons] at hp;rcases b8.mp hp with e | e
  .rw [e];exact a
  exact rK b p e
theorem sN {α β:Type}{R:α->β->Prop}:∀{l:List α}{m:List β},l.length=m.length->(∀p∈l.zip m,R p.1 p.2)->Paired R l m
 | [],[],_,_=>.nil
 | [],_::_,e,_=>by cases e
 | _::_,[],e,_=>by cases e
 | x::l,y::m,e,h=>by
  rw [List.zip_cons_cons] at h;exact .cons (h (x,y) cR) (sN (by simpa using e) λp hp=>h p (cS _ hp))
end
def Wt {a b c:V}{aT:z0n}(h:bF [a,b,c] aT):∃u1 u2 u3,aT=[u1,u2,u3]/\RelV a u1/\RelV b u2/\RelV c u3:=by
 cases h with
 | cons r1 h =>
  cases h with
  | cons r2 h =>
   cases h with
   | cons r3 h=>cases h;exact⟨_,_,_,rfl,r1,r2,r3⟩
end ST
namespace L2
open PySem PySem.Spec PyProof.Rows
section
variable {prog:Program}{w:World}{A:Around}{E:z0b}{s:Shared}
end
section
variable {X:Cx}{ag:z0e}{σ:L2.St}{H:Hp}{s:Shared}{a b:Addr}{kvs:List (List aN×V)}{k:List aN}{A:Around}{E:z0b}
end
section
variable {X:Cx}{o e f:Expr}{apos gZ:Pos}{td ty tx:TE}
end
section
variable {d D:Addr}{o:Obj}{kvs:List (List aN×V)}{ts:z0t}{js:z0j}{g:TG}{tif:TT}{te:TE}{R:Hp->Prop}{σ:L2.St}{H:Hp}
end
section
variable {prog:Program}{w:World}{A:Around}{E:z0b}{s:Shared}
def Bx {d:Addr}{o:Obj}{es:Array DictEntry}{ep:Nat}{Q:z0b}(hd:(d == sysModules)=false)(hT:s.TypeIs (.ref d) "dict")(ho:s.heap.get? d=some o)(Lo:o.data=.dict es ep)
  (hQ:Q (180) { s with heap:=s.heap.push { cls:=.type "dict_keyiterator",data:=.fields #[.ref d,.int 0 0,.int es.size 0,.int ep 0] } }) :
  wpAny 150 A (pyIter (.ref d)) Q E s:=by
 refine wpAny_pyIter_slot hT F.slot_dict_iter (ka F.slot_dict_iter hT F.entry_dict_iter ?_ (F.args_dict_iter_1 _));unfold Builtin.«dict.__iter__»;refine aA ?_;unfold Builtin.Dict.dictSlotNone;refine aA (wt hT ?_);show wpAny _ _ (pure (Value.ref d)) _ _ s;refine aH ?_;show wpAny _ _ (Builtin.Dict.showsAll d >>= _) _ _ s;unfold Builtin.Dict.showsAll;rw [ar (by rw [hd];exact cQ)];refine aA (aH ?_);refine aA (wpAny_dictEntries ho Lo ?_);refine aA (wpAny_dictEpoch ho Lo ?_);refine aA (j5 (aH ⟨_,rfl,"dict_keyiterator",_,⟨_,dA _ rfl,rfl⟩,ym.lookup,?_⟩));simpa [rawInt] using hQ
def Ek {it d:Addr}{i ep:Nat}{od:Obj}{es:Array DictEntry}{e:DictEntry}{Q:z0k->Shared->Prop}(hit:s.heap.IsKeyIter it d i es.size ep)
  (Sz:s.heap.get? d=some od)(ON:od.data=.dict es ep)(hx:es[i]?=some e)
  (hQ:∀h',h'.IsKeyIter it d (i+1) es.size ep->Heap.SameBut it s.heap h'->Q (some e.key) { s with heap:=h' }) :
  wpAny 150 A (pyNext (.ref it)) Q E s:=by
 obtain⟨o,ho,hc,hd⟩:=id hit;unfold pyNext;refine aA (oF (pR (name:=Str.ofString "__next__") hit.typeIs ym
  (ka ym hit.typeIs F.entry_dict_keyiterator_next ?_ (F.args_dict_keyiterator_next_1 _))))
 refine aA (aH ?_);refine aA ?_;refine aA ?_
 first | refine aA (wF hit.typeIs (aH ?_)) | refine aA (wB hit.typeIs (aH ?_))
 refine aA (wpAny_fieldsOf ho hd ?_);have OE:Builtin.Dict_items.ownsTuple "dict_keyiterator"=false:=by decide
 simp only [OE,wb,if_false];show wpAny _ _ (if (Value.ref d == Value.none)=true then _ else _) _ _ s;rw [ar (show ¬((Value.ref d == Value.none)=true) from cQ)];refine aA (aH ?_);refine aA (wpAny_dictEntries Sz ON ?_);rw [ar 135];refine aA (aH ?_);refine aA (wpAny_dictEpoch Sz ON ?_);rw [ar 135];refine aH ?_;have YE:i < es.size:=(Au.mp hx).1;have Vs:es[i]=e:=(Au.mp hx).2;simp only [show ¬((i:Int) < 0) from by omega,if_false,ji,As YE];refine aA ?_
 first | refine aA (wF hit.typeIs (aH ?_)) | refine aA (wB hit.typeIs (aH ?_))
 refine aA (wpAny_isOneOf_keyiter hit.typeIs ?_);show wpAny _ _ (setField (.ref it) 1 (rawInt ((i:Int)+1)) >>= _) _ _ s;refine aA (wpAny_setField ho hd 135 ?_);have Ll:(s.heap.update it (Obj.mapFields (·.setIfInBounds 1 (rawInt ((i:Int)+1))))).IsKeyIter it d (i+1) es.size ep :=
  ⟨_,rF _ ho (Obj.isFreed_of_fields (v3 hd _)),(Obj.cls_mapFields ..).trans hc,by rw [v3 hd];simp [rawInt]⟩
 refine aA (jZ ?_);refine aA (wpAny_isOneOf_keyiter (s:={ s with heap:=s.heap.update it (Obj.mapFields (·.setIfInBounds 1 (rawInt ((i:Int)+1)))) }) Ll.typeIs ?_);show wpAny _ _ (pure es[i].key) _ _ _;exact aH (aH ⟨_,rfl,aH (by rw [Vs];exact hQ _ Ll (v9 ..))⟩)
def IP {it d:Addr}{i ep:Nat}{od:Obj}{es:Array DictEntry}{Q:z0k->Shared->Prop}(hh:A.handled=none)(hit:s.heap.IsKeyIter it d i es.size ep)
  (Sz:s.heap.get? d=some od)(ON:od.data=.dict es ep)(hx:es.size<=i)
  (hQ:∀h',Heap.ExtBut it s.heap h'->Q none { s with heap:=h' }):wpAny 150 A (pyNext (.ref it)) Q E s:=by
 obtain⟨o,ho,hc,hd⟩:=id hit;unfold pyNext;refine aA (oF (pR (name:=Str.ofString "__next__") hit.typeIs ym
  (ka ym hit.typeIs F.entry_dict_keyiterator_next ?_ (F.args_dict_keyiterator_next_1 _))))
 refine aA (aH ?_);refine aA ?_;refine aA ?_
 first | refine aA (wF hit.typeIs (aH ?_)) | refine aA (wB hit.typeIs (aH ?_))
 refine aA (wpAny_fieldsOf ho hd ?_);have OE:Builtin.Dict_items.ownsTuple "dict_keyiterator"=false:=by decide
 simp only [OE,wb,if_false];show wpAny _ _ (if (Value.ref d == Value.none)=true then _ else _) _ _ s;rw [ar (show ¬((Value.ref d == Value.none)=true) from cQ)];refine aA (aH ?_);refine aA (wpAny_dictEntries Sz ON ?_);rw [ar 135];refine aA (aH ?_);refine aA (wpAny_dictEpoch Sz ON ?_);rw [ar 135];refine aH ?_;have Fs:es.size<=i:=hx;simp only [show ¬((i:Int) < 0) from by omega,if_false,ji,Ag Fs];refine aA ?_
 first | refine aA (wF hit.typeIs (aH ?_)) | refine aA (wB hit.typeIs (aH ?_))
 show wpAny _ _ (setField (.ref it) 0 .none >>= _) _ _ s;refine aA (wpAny_setField ho hd 135 ?_);show wpAny _ _ (newExc (.type "StopIteration") [] >>= _) _ _ _;refine aA ?_;simp only [newExc,newTuple];refine aA (j5 ?_ (by size_fits));refine aA (m:=firstArgMember _ _) (wpAny_of_eq (a:=Value.none) (by first | rfl | (simp only [firstArgMember];rfl)) ?_)
 refine j5 ?_ (by size_fits);simp only [raiseNew];refine aA (wpAny_handled ?_);rw [show A.in1.handled=none from hh];refine aA (aH (wpAny_throw ?_));refine aA (wpAny_isInstance (T := "StopIteration") (b:=true) ⟨_,dA _ rfl,rfl⟩ isSubtype_stop ?_);exact aH (hQ _ (((v9 ..).extBut.push _).push _))
structure ya (h:Heap)(d:Addr)(es:Array DictEntry) (ep:Nat):Prop where
 ex:Exists λo=>h.get? d=some o/\o.ExactDict/\o.data=.dict es ep
def ya.at {h h':Heap}{d:Addr}{es:Array DictEntry}{ep:Nat}(x:ya h d es ep)(k:∀o,h.get? d=some o->h'.get? d=some o):ya h' d es ep:=let ⟨o,a,b⟩:=x.ex;⟨o,k o a,b⟩
def ya.lt {h:Heap}{d:Addr}{es:Array DictEntry}{ep:Nat}(x:ya h d es ep):d < h.objs.size:=let ⟨_,a,_⟩:=x.ex;bC a
def ya.typeIs {s:Shared}{d:Addr}{es:Array DictEntry}{ep:Nat}(x:ya s.heap d es ep):s.TypeIs (.ref d) "dict" := let ⟨o,a,b,_⟩:=x.ex;⟨o,a,b.1⟩
def yp (hh:A.handled=none)(I d:Addr)(jU:d≠I)(es:Array DictEntry) (ep:Nat):Walks prog w A I [I,d] [I] es.size (λi v=>∃e,es[i]?=some e/\v=e.key) (λi h=>h.IsKeyIter I d i es.size ep/\ya h d es ep) where
 sub:=λb hb=>by simp at hb;simp [hb]
 frame:=λ_ _ _ st hk=>⟨st.1.at λo e=>hk I 135 o e,st.2.at λo e=>hk d 135 o e⟩
 item:=λi s Q E hi st hQ=>by
  have hx:es[i]?=some es[i]:=As hi;obtain⟨o,h1,_,h3⟩:=st.2.ex;refine Ek st.1 h1 h3 hx λh' Ll K_=>?_;exact hQ _ h' s.toks ⟨_,hx,rfl⟩ ⟨Ll,st.2.at λo e=>K_.extBut d o jU e⟩ λb o hb e=>K_.extBut b o (λh=>hb (by simp [h])) e
 done:=λs Q E st hQ=>by
  obtain⟨o,h1,_,h3⟩:=st.2.ex;exact IP hh st.1 h1 h3 (aG _) λh' C6=>hQ h' s.toks λb o hb e=>C6 b o (λh=>hb (by simp [h])) e
 self:=λ_ _ _ _ st hQ=>wpAny_pyIter_keyiter st.1 hQ
def K6 {d:Addr}{es:Array DictEntry}{ep:Nat}(lo:(d == sysModules)=false):PySem.W.KdlSrc prog w "dict" d d es.size (λi v=>∃e,es[i]?=some e/\v=e.key) (λh=>ya h d es ep) where
 type:=λ_ hm=>hm.typeIs
 there:=λ_ hm=>⟨hm.lt,hm.lt⟩
 keep:=λ_ _ hm hk=>hm.at λo e=>hk d (.inl rfl) o e
 notList:=by decide
 notTuple:=by decide
 hint:=λ_ _ _ _ hm hq=>PySem.W.kdl_hint_dict hm.typeIs hq
 iter:=λ_ s hh hm=>⟨_,_,(λ_ _ hq=>by obtain⟨o,h1,_,h3⟩:=hm.ex;exact Bx lo hm.typeIs h1 h3 hq),yp hh _ d (bU hm.lt) es ep,⟨⟨_,dA _ rfl,rfl,rfl⟩,hm.at λo e=>b9 _ e⟩⟩
end
end L2
namespace ST
open PySem PySem.Spec PyProof.Rows L2
abbrev P3:=Int×Int×Str
def A8 (k:P3):List V:=[.int k.1,.int k.2.1,.str k.2.2]
def P5 (k:P3):List aN:=[.inl k.1,.inl k.2.1,.inr k.2.2]
def Kw {a b:P3}(h:P5 a=P5 b):a=b:=by
 simp only [P5,List.cons.injEq,Sum.inl.injEq,Sum.inr.injEq] at h;exact gN h.1 (gN h.2.1 h.2.2.1)
def V6 (h:Heap)(k:P3)(a:Addr):Prop:=∃o t u v n,h.get? a=some o/\o.cls=.type "tuple" /\ o.data=.seq #[.int k.1 t,.int k.2.1 u,.str k.2.2 v] n
def KY:P3->P3->Bool:=ST.lex Vc (ST.lex Vc Fm)
def CV:Jl KY:=C0.lex (C0.lex CW)
section
variable {P:Program}{w:World}{A:Around}{E:z0b}{s:Shared}
def Ub {x y:Addr}{d e:P3}{Q:Bool->Shared->Prop}(hx:V6 s.heap d x)(hy:V6 s.heap e y)(q:Q (KY d e) s):wpAny (model P w) A (keyLt' (tuples' true) (.ref x) (.ref y)) Q (λ_ _=>False) s:=by
 obtain⟨o,t,u,v,n,h1,h2,h3⟩:=hx;obtain⟨o',t',u',v',n',EI,h2',h3'⟩:=hy;refine PySem.W.kat_lt h1 h3 EI h3' ?_;show PySem.W.KatLex P w A true _ Q [(.int d.1 t,.int e.1 t'),(.int d.2.1 u,.int e.2.1 u'),(.str d.2.2 v,.str e.2.2 v')] 0 s;refine PySem.W.kat_cons (v7 _ t _ t' P w _ _ ?_);unfold KY ST.lex at q;by_cases c:d.1=e.1
 .rw [aw c] at q;rw [show (d.1 == e.1)=true by simp [c]];refine PySem.W.kat_yes (PySem.W.kat_cons (v7 _ u _ u' P w _ _ ?_));by_cases c2:d.2.1=e.2.1
  .rw [aw c2] at q;rw [show (d.2.1 == e.2.1)=true by simp [c2]];refine PySem.W.kat_yes (PySem.W.kat_cons (SeqAt.EqAt.str_str _ v _ v' P w _ _ ?_));by_cases c3:d.2.2=e.2.2
   .rw [show (d.2.2 == e.2.2)=true by simp [c3]];refine PySem.W.kat_yes (PySem.W.kat_nil ?_);have:Fm d.2.2 e.2.2=false:=by rw [c3];exact CW.zc _
    rw [this] at q;exact q
   rw [show (d.2.2 == e.2.2)=false by simp [c3]];exact PySem.W.kat_no (PySem.W.kat_one _ _ (lt_str q))
  rw [ar c2] at q;rw [show (d.2.1 == e.2.1)=false by simp [c2]];exact PySem.W.kat_no (PySem.W.kat_one _ _ (PyProof.Rows.lt_int q))
 rw [ar c] at q;rw [show (d.1 == e.1)=false by simp [c]];exact PySem.W.kat_no (oneLt_int q)
def CT (P:Program)(w:World):zT P w P3 where
 is:=V6
 lt:=KY
 ord:=CV
 room:=λA=>True
 keeps:=λx k=>by
  obtain⟨o,t,u,v,n,h1,h2,h3⟩:=x;exact⟨o,t,u,v,n,k _ _ _ _ h2 h3 h1,h2,h3⟩
 ask:=λhu hx hy q=>Ub hx hy q
 ty := "int"
 U2:=by decide
 first:=λ{h k a} x=>by
  obtain⟨o,t,u,v,n,h1,h2,h3⟩:=x;exact⟨o,_,n,_,h1,h2,h3,rfl,λA Q E s _ q=>aH q⟩
end
section
variable {X:Cx}{ag:z0e}{σ:L2.St}{H:Hp}{s:Shared}
def RA (I:133){t:Addr}{k:P3}(h:aY X.K H t (A8 k)):V6 s.heap k t:=by
 obtain⟨aT,rv,⟨o,g1,g2,n,g3⟩,hz⟩:=I.tuple h;obtain⟨u1,u2,u3,e,r1,r2,r3⟩:=Wt rv;obtain⟨t,rfl⟩:=r1;obtain⟨u,rfl⟩:=r2;obtain⟨v,rfl⟩:=r3;subst e;exact⟨o,t,u,v,n,g1,g2,g3⟩
theorem vh (I:133){G:P3->Addr->Prop}(hG:G=λd t=>H t=some (.tup (A8 d))):∀{kvs:List (List aN×V)}{xs:List (List aN×Addr×Value)}{zs:List P3},KT H kvs xs->kvs.map 82=zs.map P5->Paired (λt z=>((CT X.prog X.w).wi G).is s.heap z t) (xs.map (·.2.1)) zs
 | _,_,[],.nil,_=>.nil
 | _,_,z::zs,.cons a r,e=>by
  rw [cD,cD] at e;obtain⟨e1,e2⟩:=List.cons.inj e;have h2:=a.2.1;rw [e1] at h2;exact .cons ⟨RA I (aY.of h2),by rw [hG];exact h2⟩ (vh I hG r e2)
 | _,_,[],.cons a r,e=>by cases e
 | _,_,_::_,.nil,e=>by cases e
end
def qf {X:Cx}(hc:X.calm=true):iV X (.builtin "sorted") (λxs H Q=>∃a kvs zs,xs=[.ref a]/\H a=some (.dT kvs)/\kvs.map 82=zs.map P5/\zs.length < 64/\∀l rR ug,H l=none->Paired (λt z=>H t=some (.tup (A8 z))) rR ug->ug.Perm zs->LR KY ug->Q (.ref l) (upd H l (.lst (rR.map V.ref)))):=by
 intro ag s σ H xs us Q I r h;obtain⟨a,kvs,zs,rfl,h1,hk,Vz,q⟩:=h;obtain⟨u,rfl,rx⟩:=vals1 r;cases (show u=Value.ref a from rx);obtain⟨sl,sm,xs,kt,o,es,ep,g1,g2,g3,g4,_,_⟩:=M3 I.cu h1;have lk:xs.length=zs.length:=by have:=congrArg List.length hk;rw [au,au] at this;rw [<-bc kt,this]
 have sz:es.size=xs.length:=by rw [<-qW,g4,au]
 obtain⟨m,uj,_⟩:=id I.loc
 let G:P3->Addr->Prop:=λd t=>H t=some (.tup (A8 d))
 refine Calls.call_function_entry kind_sorted plain_sorted entry_sorted (args_sorted1 _) ?_;unfold Builtin.«sorted»;refine aA (m:=checkCount "sorted" 1 1 _) (aH ?_);refine aA (PySem.W.kdu_collect (K6 (es:=es) (ep:=ep) sm) (I.ok.hd hc) ⟨o,g1,g2,g3⟩ (by rw [sz];exact fits ∅) λEI tk bX kp mT=>?_);have ea:bX.toList=(xs.map (·.2.1)).map Value.ref:=by
  refine List.ext_getElem? λj=>?_;by_cases c:j < es.size
  .have e1:bX[j]?=some (bX[j]'(by rw [mT.1];exact c)):=As _;obtain⟨e,e2,e3⟩:=mT.2 j _ e1;rw [rH,e1,e3,a0,a0];rw [<-rH,g4,a0] at e2;obtain⟨y,ey,e4⟩:=b0.mp e2;rw [ey,<-e4];rfl
  rw [ke (by rw [qW,mT.1];omega),ke (by rw [au,au];omega)]
 rw [ea];have Kh:Paired (λt z=>((CT X.prog X.w).wi G).is s.heap z t) (xs.map (·.2.1)) zs:=vh I rfl kt hk;refine aA (wpAny_newList ?_ (by rw [mj];simp;omega));generalize xs.map (·.2.1)=ts at Kh;have lt:ts.length=xs.length:=by rw [bc Kh,lk]
 have Vi:(EI.push (seqObj "list" (ts.map Value.ref).toArray 0)).get? EI.objs.size=some (seqObj "list" (ts.map Value.ref).toArray 0):=dA _ rfl;have keep:∀b o,158->(EI.push (seqObj "list" (ts.map Value.ref).toArray 0)).get? b=some o:=λb o q=>b9 _ (kp _ _ q);have YB:(EI.push (seqObj "list" (ts.map Value.ref).toArray 0)).Ns X.env.locals m:=by
  obtain⟨o,es,ep,g1,g2⟩:=uj;exact⟨o,es,ep,keep _ _ g1,g2⟩
 have hD:s.heap.get? EI.objs.size=none:=by
  cases e:s.heap.get? EI.objs.size with
  | none=>rfl
  | some ob=>exact absurd (bC (kp _ _ e)) (lP _)
 have fD:H EI.objs.size=none:=by
  cases e:H EI.objs.size with
  | none=>rfl
  | some u =>
   obtain⟨ob,g⟩:=yM (I.cu _ u e);rw [hD] at g;cases g
 refine aA (jZ (ka slot_list_sort ⟨_,Vi,rfl⟩ entry_list_sort (DK (sk:=(CT X.prog X.w).wi G) (s:={ s with heap:=EI.push (seqObj "list" (ts.map Value.ref).toArray 0),toks:=tk }) (True.intro) YB Vi (mI (λt z i=>((CT X.prog X.w).wi G).keeps i λb o xs n _ _ g=>keep b o g) Kh) ∅ λh2 c rR ug k2 ns2 g2 sub len pm Q_=>⟨_,rfl,?_⟩) (args_list_sort _)));have l3:=pm.length_eq;refine aH ⟨_,rfl,.ref EI.objs.size,_,I.Mv (a:=EI.objs.size) (o:=.lst (rR.map V.ref)) (t':=tk) (λb u nb hb=>k2 b u nb (bU (bC (kp b u hb))) (keep b u hb)) (λm' hm=>?_) hD fD (show cP X.prog X.w _ _ _ (.lst (rR.map V.ref)) from ⟨?_,rR.map Value.ref,c,uR _,g2⟩),rfl,q _ rR ug fD (sN len λp hp=>(rK Kh p (sub p.1 p.2 hp)).2) pm Q_⟩
 .have e:m'=m:=by
   obtain⟨o,es,ep,ho,uC,_,hf⟩:=hm;obtain⟨o2,es2,Tx,EA,Iv,_,OM⟩:=uj;rw [ho] at EA;cases EA;rw [uC] at Iv;cases Iv
   funext x
   rw [<-hf x,<-OM x]
  rw [e];exact ns2
 rw [au];exact fits ∅
end ST
namespace L2
open PySem PySem.Spec PyProof.Rows
section
variable {prog:Program}{w:World}{A:Around}{E:z0b}{s:Shared}
def EF {Q:Int->Shared->Prop}(h:Q 4238894112 { s with toks:=s.toks+1 }):wpAny 150 A (pyHash .none) Q E s:=by
 have hT:s.TypeIs .none "NoneType" := rfl;unfold pyHash;have hv:[Value.none].any Value.onHeap=false:=rfl;refine aA ?_;rw [cRoomFor,ar (by rw [hv];exact cQ)];refine aH ?_;refine aA (wpAny_specialOf hT wg.lookup ?_);show wpAny _ _ (if (some (Value.builtin "NoneType.__hash__") == some Value.none)=true then _ else _) Q E s;rw [ar (by rw [beq_builtin_none];exact cQ)];refine aA (wpAny_specialOf hT wg.lookup ?_);show wpAny _ _ (callSpecialIfBoundUnlessNone? .none "__hash__" _ >>= _) Q E s;refine aA (wpAny_callSpecialIfBoundUnlessNone?_slot hT wg
  (ka wg hT F.entry_NoneType_hash
   (show wpAny _ _ (do ret (<-mkInt 4238894112)) _ _ s from wpAny_ret_mkInt ?_) (F.args_NoneType_hash_1 _)))
 show wpAny _ _ (if (decide (-(2:Int) ^ 63<=4238894112) && decide ((4238894112:Int) < 2 ^ 63))=true then _ else _) Q E _;rw [aw nofun];exact aH h
def Ha:Option aN->Value->Bool
 | none,.none=>true
 | none,_=>false
 | some k,v=>lY k v
def fU {v:Value}(h:Ha none v=true):v=.none:=by cases v <;> first | rfl | (exact nomatch h)
def IX (a b:aN):decide ((some a:Option aN)=some b)=decide (a=b):=by
 by_cases e:a=b
 .rw [cE e,cE (by rw [e])]
 rw [fg e,fg λz=>e (hJ z)]
def optKind (prog:Program)(w:World):PySem.KeyKind prog w (Option aN) where
 is:=Ha
 hash:=λk=>match k with | none=>4238894112 | some k=>R_ w k
 inj:=λv a b ha hb=>by
  cases a with
  | none =>
   have:=fU ha;subst this;cases b with
   | none=>rfl
   | some k=>cases k <;> exact nomatch hb
  | some k =>
   cases b with
   | none =>
    have:=fU hb;subst this;cases k <;> exact nomatch ha
   | some k2=>exact congrArg some ((aX prog w).inj v k k2 ha hb)
 byValue:=λk v h=>by
  cases k with
  | none=>have:=fU h;subst this;rfl
  | some k=>exact(aX prog w).byValue k v h
 pyHash:=λ{A E s k v Q} hv h=>by
  cases k with
  | none=>have:=fU hv;subst this;exact EF h
  | some k=>exact(aX prog w).pyHash (k:=k) hv h
 eqBool:=λ{A E s a b u v Q} hu hv h=>by
  cases a with
  | none =>
   have:=fU hu;subst this;cases b with
   | none =>
    have:=fU hv;subst this;exact SeqAt.EqAt.same .none _ _ _ _ h
   | some k =>
    rcases cV (show lY k v=true from hv) with ⟨i,t,rfl,rfl⟩ | ⟨x,t,rfl,rfl⟩
    .exact SeqAt.EqAt.none_int i t _ _ _ _ h
    exact SeqAt.EqAt.none_str x t _ _ _ _ h
  | some k =>
   cases b with
   | none =>
    have:=fU hv;subst this;rcases cV (show lY k u=true from hu) with ⟨i,t,rfl,rfl⟩ | ⟨x,t,rfl,rfl⟩
    .exact SeqAt.EqAt.int_none i t _ _ _ _ h
    exact SeqAt.EqAt.str_none x t _ _ _ _ h
   | some k2=>rw [IX] at h;exact(aX prog w).eqBool (a:=k) (b:=k2) hu hv h
 «strs»:=λk x t v h=>by
  cases k with
  | none=>exact nomatch h
  | some k=>exact(aX prog w).strs k x t v h
def KW {h:Heap}{d:Addr}{vs:List (aN×Value)}(hd:h.DictOf (aX prog w) d vs):h.MapOf (optKind prog w) d (λk=>match k with | none=>none | some k=>valueAt vs k):=by
 obtain⟨o,es,ep,ho,hc,Lo,hk,hf⟩:=hd.mapOf;refine⟨o,es,ep,ho,hc,Lo,λe he=>?_,λk=>?_⟩
 .obtain⟨k,h1,h2⟩:=hk e he;exact⟨some k,h1,h2⟩
 cases k with
 | some k=>exact hf k
 | none =>
  unfold findBy;rw [Option.map_eq_none_iff,Array.find?_eq_none];intro e he z;have e1:=fU (show Ha none e.key=true from z);obtain⟨k,h1,_⟩:=hk e he;rw [e1] at h1;cases k <;> exact nomatch h1
end
def DIn (H:Hp)(a:Addr)(y:V)(b:Bool):Prop:=(∃o,cg H a y o/\b=o.isSome)\/(y=.d0/\b=false/\∃kvs,Rd H a (.dK kvs))
inductive Uh (H:Hp)(Q:Bool->Prop):V->V->Prop where
 | mk (a:Addr)(y:V)(b:Bool)(h:DIn H a y b)(q:Q b):Uh H Q y (.ref a)
def N7 {X:Cx}(hu:X.A.units+1 < cLine):ng X (compareOp .In) (λx y H Q=>Uh H (λb=>Q (.bl b) H) x y):=by
 intro ag s σ H x y v u Q I rx ry h;obtain⟨a,_,b,h,q⟩:=h;cases ry;rcases h with ⟨o,g,rfl⟩ | ⟨rfl,rfl,kvs,e⟩
 .exact TY hu I g rx λs3 I3=>⟨.bl o.isSome,H,I3,rfl,q⟩
 cases rx;obtain⟨z,hd,vs,rel,dd⟩:=mf I.cu e;exact wpAny_in_of (knd:=optKind X.prog X.w) (k:=none) rfl hd (KW dd) ⟨.bl false,H,I.tok _,rfl,q⟩
open PySem PySem.Spec PyProof.Rows PySem.W
section
variable {prog:Program}{w:World}{A:Around}{E:z0b}{s:Shared}{T:String}{r d:Addr}{n:Nat}{P:Nat->Value->Prop}{OK:z0o}
def yo {I:Addr}{fp wr:z0q}{St:Nat->Heap->Prop}(W:Walks prog w A I fp wr n P St)(pre:z0l) :
  Walks prog w A I fp wr (pre.size+n) (λj v=>if j < pre.size then pre[j]?=some v else P (j - pre.size) v) (λj h=>pre.size<=j/\St (j - pre.size) h) where
 sub:=W.sub
 frame:=λi h h' st k=>⟨st.1,W.frame _ h h' st.2 k⟩
 item:=λi s Q E hi st hQ=>W.item (i - pre.size) s Q E (by have:=st.1;omega) st.2 λv h' tk p uZ k=>hQ v h' tk (by rw [ar (by have:=st.1;omega)];exact p) ⟨by have:=st.1;omega,by have:=st.1;rw [show i+1 - pre.size=i - pre.size+1 by omega];exact uZ⟩ k
 done:=λs Q E st hQ=>W.done s Q E (by have:=st.2;rwa [Nat.add_sub_cancel_left] at this) hQ
 self:=λi s Q E st q=>W.self (i - pre.size) s Q E st.2 q
def BV {R:Result->Shared->Prop}(K:KdlSrc prog w T r d n P OK)(hh:A.handled=none)(cu:OK s.heap)(S:Addr)(hSr:S≠r)(hSd:S≠d)(res:Value)(pre:z0l) (c₀:Nat)(hS:s.heap.get? S=some { cls:=.type "list",data:=.seq pre c₀ })
  (hR:∀h' tk LO c',(∀b o,b≠S->158->h'.get? b=some o)->h'.get? S=some { cls:=.type "list",dict:=none,data:=.seq LO c',slots:=#[] }->ItemsOf (λj v=>if j < pre.size then pre[j]?=some v else P (j - pre.size) v) LO (pre.size+n)->R (.ok (.ret res)) { s with heap:=h',toks:=tk })(hn:pre.size+n < sizeLine) :
  wpAny 150 A.in1 (Builtin.List.listExtendWith (.ref S) (.ref r) res)
   (λfin s'=>match fin with | .done f=>R (.ok f) s' | .again c'=>c'.quiet=true/\codeAny 150 A c' R s') (λe s'=>R (.error e) s') s:=by
 have hSI:S≠s.heap.objs.size:=bU (bC hS);have hSf:S∉[s.heap.objs.size,d]:=by simp only [b8,List.not_mem_nil,or_false,not_or];exact⟨hSI,hSd⟩
 obtain⟨oI,St,hit,W,st⟩:=K.iter A.in1 s hh cu;have key:∀(h:Heap) (c₁ tk:Nat),St 0 h->(∀b o,b≠S->158->h.get? b=some o) ->
   h.get? S=some { cls:=.type "list",data:=.seq pre c₁ }->codeAny 150 A (.builtin "list.extend.loop" ⟨[.ref S,180,res],[]⟩) R { s with heap:=h,toks:=tk }:=by
  intro h c₁ tk yg hk Td;refine codeAny_extend_loopS (yo W pre).toS (lL hn) S hSf res n pre.size _ pre c₁ ∅ ∅ ⟨aG _,by rw [oG];exact yg⟩ Td ⟨rfl,λj v e=>by dsimp only;rw [aw (Au.mp e).1];exact e⟩ λs' LO c' hm hS' mT=>?_;rw [Moved.eq_with hm];refine hR s'.heap s'.toks LO c' (λb o hb e=>hm.heap b o (λkZ=>?_) (hk b o hb e)) hS' mT;rcases b8.mp kZ with e' | kZ
  .exact hb e'
  exact absurd (bC e) (by rw [bA.mp kZ];exact lP _)
 unfold Builtin.List.listExtendWith;refine aA (i7 (T:=T) (K.type s cu) ?_);have h1:Builtin.List.listSameRef (.ref S) (.ref r)=false:=by simp [Builtin.List.listSameRef,hSr]
 simp only [h1,K.notList,K.notTuple,Bool.or_false,wb,if_false];refine aA (hit _ _ ?_);have Td:=b9 oI hS;refine aA (jZ (K.hint _ _ _ _ (K.keep _ _ cu λb _ o e=>b9 _ e) ?_));refine wpAny_ite_split (λ_=>?_) (λ_=>aH ⟨kr PySem.F.plain_extend_loop _,key _ c₀ _ st (λb o _ e=>b9 _ e) Td⟩);refine aA (kj ?_);refine aA ?_;show wpAny _ _ (updateSeq S (·.push .none) >>= λ_=>updateSeq S (·.pop)) _ _ _;refine aA (wpAny_updateSeq Td rfl ?_ ∅ (by rw [Array.size_push];omega));have hS₂:=rF (Obj.mapSeq (·.push Value.none)) Td rfl;refine wpAny_updateSeq hS₂ rfl ?_ (by rw [Array.size_push];omega) (by rw [Array.size_pop,Array.size_push];omega);have hS₃:=rF (Obj.mapSeq (·.pop)) hS₂ rfl;obtain⟨c1,hc1⟩:∃c1,Obj.mapSeq (·.pop) (Obj.mapSeq (·.push Value.none) ({ cls:=.type "list",data:=.seq pre c₀ }:Obj))={ cls:=.type "list",data:=.seq pre c1 }:=by
  have e:(pre.push Value.none).pop=pre:=Array.pop_push;refine⟨?_,?_⟩
  rotate_left
  simp only [Obj.mapSeq,e];rfl
 refine aH ⟨kr PySem.F.plain_extend_loop _,key _ c1 _ ?_ (λb o hb e=>?_) (by rw [hS₃,hc1])⟩
 .refine W.frame 0 _ _ st λb hb o e=>?_;have hbS:b≠S:=λh=>hSf (h ▸ hb);exact(uO _ _ (d8 hbS)).trans ((uO _ _ (d8 hbS)).trans e)
 exact(uO _ _ (d8 hb)).trans ((uO _ _ (d8 hb)).trans (b9 _ e))
end
inductive Uj (H:Hp)(Q:VK):V->List V->Prop where
 | mk (l d:Addr)(xs:List V)(kvs:87)(h1:H l=some (.lst xs))(h2:H d=162)(h3:xs.length+kvs.length < sizeLine)(q:Q .d0 (upd H l (.lst (xs++kvs.map λp=>kV p.1)))):Uj H Q (.ref l) [.ref d]
def Bm {X:Cx}(hc:X.calm=true):V5 X "list.extend" (λx vs H Q=>Uj H Q x vs):=by
 intro ag s σ H x vs v us Q I rx rv h;obtain⟨l,d,xs,kvs,hH,hD,hz,q⟩:=h;cases rx;obtain⟨u,rfl,ru⟩:=rv.one;cases ru;obtain⟨z,aT,n,r,hl,e⟩:=I.Bq hH;obtain⟨z2,hs,vs,rel,dd⟩:=vF I.cu hD;obtain⟨o,es,ep,d1,d2,d3,d4⟩:=dd;have l1:=rel.length;have lr:=r.length;have jU:l≠d:=λz=>by rw [z,hD] at hH;cases hH
 refine ki (wk yk.plain PySem.F.entry_list_extend (yk.check _ _ _ _ _ _ _ _ ⟨_,e,rfl⟩ (PySem.F.args_list_extend_2 _ _) ?_));show wpAny _ _ (Builtin.List.listExtendWith (.ref l) (.ref d) .none) _ _ _;refine BV (R:=λr s'=>match r with | .ok (.ret v)=>EP X ag σ Q v s' | .ok _=>False | .error e=>X.xe e s') (kdl_dict (knd:=aX X.prog X.w) (kvs:=vs) (ep:=ep) hs) (I.ok.hd hc) ⟨o,es,d1,d2,d3,d4⟩ l jU jU .none aT.toArray n e (λh' tk bX c kk hA mT=>?_) (by rw [cH];omega)
 have keys:=rel.keys;have vals:bF (xs++kvs.map λp=>kV p.1) bX.toList:=by
  refine o9 (by have h1:=mT.1;simp only [a8,au,qW];rw [h1,cH];omega) λj x y e1 e2=>?_;rw [rH] at e2;have hp:=mT.2 j y e2;rw [cH] at hp;by_cases c:j < aT.length
  .rw [aw c] at hp;rw [nq ∅] at e1;obtain⟨u,e3,r3⟩:=bF.get r e1;rw [List.getElem?_toArray,e3] at hp;cases hp;exact r3
  rw [ar c] at hp;obtain⟨k,v,e3,e4⟩:=hp;rw [lR ∅,a0,lr] at e1;obtain⟨p,e5,rfl⟩:=b0.mp e1;have e6:(kvs.map 82)[j - aT.length]?=some p.1:=by rw [a0,e5];rfl
  rw [keys,a0,e3] at e6;cases e6;exact Ii e4
 have hz3:(xs++kvs.map λp=>kV p.1).length<=sizeLine:=by rw [a8,au];omega
 have new:cP X.prog X.w (upd H l (.lst (xs++kvs.map λp=>kV p.1))) h' l (.lst (xs++kvs.map λp=>kV p.1)):=⟨hz3,bX.toList,c,vals,by simpa using hA⟩;exact⟨.d0,_,I.write (x:=l) (e:=l) (by rw [hH];exact True.intro) (.inl rfl) (λb q hb z=>kk b q hb z) ⟨_,hA⟩ new,rfl,q⟩
end L2
namespace g9
open PySem L2 M11 ST
abbrev r_:Stmt:=top 8
abbrev xf:Stmt:=top 7
abbrev xn:Stmt:=top 9
abbrev xo:Stmt:=top 10
def dP (aa:83) (n:Nat):z0t:=match aa[n]? with | some ru=>ru.2 | none=>match aa[0]? with | some ru=>[ru.1] | none=>[]
def Nc (K:bp)(C Cg:Addr)(H:Hp)(g:Addr)(aa:83)(aL:z0h)(aW:List Be):Prop:=∃(Hg:Hp)(rs ss:z0q)(bt:Addr),GrV Hg H Cg g rs ss bt/\bK K H rs aa/\Fz K C H bt aa aL aW
theorem Nc.same {K:bp}{C Cg:Addr}{H H':Hp}{g:Addr}{aa:83}{aL:z0h}{aW:List Be}(h:Nc K C Cg H g aa aL aW)(s:aD H H'):Nc K C Cg H' g aa aL aW:=by
 obtain⟨Hg,rs,ss,bt,⟨gx,fs,R2,S2,e1,e2,e3,e4,e5,e6,e7,e8,Z4⟩,rl,b⟩:=h;exact⟨Hg,rs,ss,bt,⟨gx,fs,R2,S2,s _ _ e1,e2,e3,e4,e5,s _ _ e6,s _ _ e7,e8,Z4⟩,rl.same s,b.same s⟩
section
def oW (K:bp)(C Cg:Addr):Sp:=λvs H Q _=>∃(g:Addr) (n:Nat)(aa:83)(aL:z0h)(aW:List Be),vs=[.ref g,.int (n:Int)]/\Nc K C Cg H g aa aL aW/\aa≠[]/\∀(p:Addr)(H':Hp),aD H H'->aY K H' p ((dP aa n).map V.str)->Q (.ref p) H'
def DM:aK ["grammar","number"] ["grammar","number"] (ay r_):=152
def Bf {C Cg fS:Addr}{fdS:FuncData}(F:ir K "parts_of" "parts_of" r_ f fd)(T:Txt mg)(G:GC K Cg)(MS:Meth K Cg "start" fS)(FS:bR P w K mg base fK 1 fS fdS ["self"] (Cz K Cg))(BS:Binds K fdS ["self"] []):bR P w K mg base fK 2 f fd ["grammar","number"] (oW K C Cg):=by
 refine F.ok DM 157 161
 .obtain⟨g,n,aa,aL,aW,rfl,_⟩:=h;rfl
 obtain⟨g,n,aa,aL,aW,rfl,⟨Hg,rs,ss,bt,gv,cI,YX⟩,jU,q⟩:=h;refine⟨_,ao (br (kP (a_ lV (pv 1) (aP aU rfl T.len ff (ab (dr (pv 0) rfl) ak)) (cx _))
  (ba bE (ba cU (dr (pv 0) rfl) (pv 1) 137) av 137)
  (bW (ab (G6 (pv 0) G.cls MS FS hr BS .nil lU) ak)))),?_⟩
 dsimp only [zC];have gv0:=gv;obtain⟨gx,fs,R2,S2,eg,l1,l2,l3,l4,e1,e2,_⟩:=gv;have ll:=bc cI;refine⟨_,rfl,_,rfl,g,Cg,gx,fs,_,rfl,eg,G.cls,G.a1,l1,R2,_,rfl,.inl (aI.of e1),_,_,rfl,rfl,_,rfl,?_⟩;rw [au,ll];by_cases c:n < aa.length
 .rw [cE ∅];refine By ?_;obtain⟨r,er,p,v1,v2⟩:=Paired.at_ cI n _ (df c);have uJ:pK 146 ((n:Nat):Int)=some (.ref r):=cK (by rw [a0,er];rfl);refine⟨_,rfl,g,Cg,gx,fs,_,rfl,eg,G.cls,G.a1,l1,_,rfl,R2,_,_,_,rfl,rfl,aI.of e1,uJ,r,_,_,_,rfl,rfl,v1,rfl,q p H (aD.refl H) ?_⟩;unfold dP;rw [df c];exact v2
 rw [fg ∅];refine iS ?_;have l0:0 < aa.length:=List.length_pos_iff.mpr jU;refine⟨_,rfl,g,gx,fs,rfl,eg,l4,Hg,g,bt,rs,ss,aa,_,rfl,gv0,cI,df l0,?_⟩;refine⟨Fg,λp hp=>?_⟩;refine q p _ (af hp _) ?_;unfold dP;rw [ke ∅,df l0];exact aY.of ae
end
abbrev Pl:=Nat×Nat×Str
def pZ (z:Pl):P3:=((z.1:Int),(z.2.1:Int),z.2.2)
def N4 {a b:Pl}(h:pZ a=pZ b):a=b:=by
 simp only [pZ,oM] at h;exact gN ∅ (gN ∅ h.2.2)
def j8 (H:Hp)(t:Addr)(z:Pl):Prop:=H t=some (.tup (A8 (pZ z)))
def paV:Option Str->V
 | some z=>.str z
 | none=>.d0
def zS (B:Addr)(H H':Hp):Prop:=∀y o,y≠B->H y=some o->H' y=some o
def vI (zs:z0t) (j:Nat):g8 (148) (some ((j:Int)+1)) none=(zs.drop (j+1)).map V.str:=by
 have:=vH zs j;rw [i8] at this;exact this
def none_of {H H':Hp}{L:Addr}(s:aD H H')(h:H' L=none):H L=none:=by
 cases e:H L with
 | none=>rfl
 | some o=>rw [s _ _ e] at h;cases h
def uU {B:Addr}{H H':Hp}{kb:List (List aN×V)}(sx:zS B H H')(hB:H B=some (.dT kb)){y:Addr}{o:HO}(hy:H y=some o)(ho:∀k,o≠.dT k):H' y=some o :=
 sx y o (λz=>by rw [z,hB] at hy;cases hy;exact ho _ rfl) hy
def FR {K:bp}{B:Addr}{H H':Hp}{kb:List (List aN×V)}(sx:zS B H H')(hB:H B=some (.dT kb)){y:Addr}{xs:List V}(hy:aY K H y xs):aY K H' y xs :=
 hy.elim (λh=>.inl (h.elim (λh=>.inl (uU sx hB h λ_ z=>HO.noConfusion z)) λ⟨o,h⟩=>.inr ⟨o,uU sx hB h λ_ z=>HO.noConfusion z⟩)) .inr
def Et {kvs:87}{ks:z0t}(h:kvs.map 82=ks.map Sum.inr):(kvs.map λp=>kV p.1)=ks.map V.str:=by
 have:(kvs.map λp=>kV p.1)=(kvs.map 82).map kV:=by rw [fc];rfl
 rw [this,h,fc];rfl
def e_ (n d:Nat):List aN:=[.inl (n:Int),.inl (d:Int)]
section
def xt {aa:83}(h8:∀ru∈aa,ru.2.length<=8) (n:Nat):(dP aa n).length<=8:=by
 unfold dP
 split
 .rename_i ru e
  exact h8 ru (cC e)
 split
 .show 1<=8;omega
 show 0<=8;omega
def rY (K:bp)(C Cg:Addr):Sp:=λvs H Q _=>∃(g t:Addr)(z:Pl)(aa:83)(aL:z0h)(aW:List Be),vs=[.ref g,.ref t]/\Nc K C Cg H g aa aL aW/\aa≠[]/\aY K H t (A8 (pZ z))/\∀(H':Hp),aD H H'->Q (paV ((dP aa z.1)[z.2.1]?)) H'
def yD:aK ["grammar","place","parts"] ["grammar","place"] (ay xf):=152
def D_ {C Cg:Addr}(F:ir K "part_at" "part_at" xf f fd)(T:Txt mg)(GP:aF P w K mg base 2 "parts_of" ["grammar","number"] (oW K C Cg)):bR P w K mg base fK 3 f fd ["grammar","place"] (rY K C Cg):=by
 refine F.ok yD 157 161
 .obtain⟨g,t,z,aa,aL,aW,rfl,_⟩:=h;rfl
 obtain⟨g,t,z,aa,aL,aW,rfl,gv,jU,ht,q⟩:=h;refine⟨_,ai (az (i:=2) yD.nd rfl 84 (bu GP hr rfl (ab (pv 0) (ab (ba bE (pv 1) av 137) ak))))
  (ao (br (kP (a_ lV (ba bE (pv 1) av 137) (aP aU rfl T.len ff (ab (pv 2) ak)) (cx _))
   (ba bE (pv 2) (ba bE (pv 1) av 137) 137) G5))),?_⟩
 nofun
 refine⟨_,rfl,_,rfl,t,_,_,_,rfl,rfl,ht,rfl,g,z.1,aa,aL,aW,rfl,gv,jU,λp H1 s1 e1=>?_⟩;refine⟨_,rfl,t,_,_,_,rfl,rfl,s1.tup ht,rfl,_,rfl,p,_,rfl,.inr e1,_,_,rfl,rfl,_,rfl,?_⟩;rw [au];by_cases c:z.2.1 < (dP aa z.1).length
 .rw [cE (show (pZ z).2.1 < ((dP aa z.1).length:Int) from Int.ofNat_lt.mpr c)];refine By ?_;refine⟨_,rfl,_,rfl,t,_,_,_,rfl,rfl,s1.tup ht,rfl,p,_,_,_,rfl,rfl,e1,cK (by rw [a0,df c];rfl),?_⟩;have:=q H1 s1;rw [df c] at this;exact this
 rw [fg (show ¬(pZ z).2.1 < ((dP aa z.1).length:Int) from λy=>c (Int.ofNat_lt.mp y))];refine iS ?_;have:=q H1 s1;rw [ke ∅] at this;exact this
def yA (K:bp)(C Cg:Addr):Sp:=λvs H Q _=>∃(g t B:Addr)(z:Pl)(aa:83)(aL:z0h)(aW:List Be)(kb:List (List aN×V)),vs=[.ref g,.ref t,.ref B]/\Nc K C Cg H g aa aL aW/\aa≠[]/\198/\aW.length<=63/\aY K H t (A8 (pZ z))/\H B=some (.dT kb)/\kb.length<=100000 /\
 ∀(L:Addr) (nE:z0t)(H':Hp),H L=none->zS B H H'->H' L=some (.lst (nE.map V.str))->H' B=some (.dT (if (aZ kb (e_ z.1 z.2.1)).isSome=true then kb else kb++[(e_ z.1 z.2.1,.bl true)]))->nE.length<=1001->(∀w,w∈nE↔(w=z.2.2/\((dP aa z.1).drop (z.2.1+1)).all (λy=>decide (y∈aL.map 82))=true)\/((aZ kb (e_ z.1 z.2.1)).isSome=false/\PL (hd aa) aW (λy=>decide (y∈aL.map 82)) ((dP aa z.1).drop (z.2.1+1)) w))->Q (.ref L) H'
def nO:aK ["grammar","place","begun","table","behind","texts"] ["grammar","place","begun"] (ay xo):=152
def Ed {C Cg fF fA:Addr}{To fdA:FuncData}(F:ir K "texts_behind" "texts_behind" xo f fd)(T:Txt mg)(G:GC K Cg)(B:BC K C)(GP:aF P w K mg base 2 "parts_of" ["grammar","number"] (oW K C Cg))
  (FF:bR P w K mg base fK 2 fF To ["self","parts"] (CG K C true))(MF:Meth K C "first_words" fF)(BF:Binds K To ["self","parts"] [])
  (FA:bR P w K mg base fK 2 fA fdA ["self","parts"] (F5 K C true))(MA:Meth K C "all_empty" fA)(BA:Binds K fdA ["self","parts"] []):bR P w K mg base fK 3 f fd ["grammar","place","begun"] (yA K C Cg):=by
 refine F.ok nO 157 161
 .obtain⟨g,t,B,z,aa,aL,aW,kb,rfl,_⟩:=h;rfl
 obtain⟨g,t,Bd,z,aa,aL,aW,kb,rfl,gv,jU,h8,Zh,ht,hB,OH,q⟩:=h;have hu:=fY hr;refine⟨_,ai (az (i:=3) nO.nd rfl 84 (dr (pv 0) rfl))
  (ai (az (i:=4) nO.nd rfl 84 (dW iY (bu GP hr rfl (ab (pv 0) (ab (ba bE (pv 1) av 137) ak))) (eU (aQ dw (ba bE (pv 1) av 137) av)) gW))
  (ai (ie (az (i:=5) nO.nd rfl 84 (kP (gS (nZ (pv 3) B.cls MA FA hr BA .nil lU (ab (pv 4) ak))) (bM (ab (ba bE (pv 1) av 137) ak)) (bM ak))))
  (ai (ie (cq (fw (dC hu (dW AG (pv 1) gW (eU av)) (pv 2)))
   (ai (fC hu (pv 2) (dW AG (pv 1) gW (eU av)) fq rfl)
   (ao (cT (gX gw yk Ar (Bm rfl) (pv 5) (ab (nZ (pv 3) B.cls MF FF hr BF .nil lU (ab (pv 4) ak)) ak))))) a7))
  (ao (br (pv 5)))))),?_⟩
 nofun
 have Zj:=gv;obtain⟨Hg,rs,ss,bt,⟨gx,fs,R2,S2,eg,l1,l2,l3,l4,e1,e2,_⟩,cI,YX⟩:=gv;obtain⟨e,d,bg,kE,ps,S,mps,vE⟩:=YX.bs;refine⟨_,rfl,g,Cg,gx,fs,_,rfl,eg,G.cls,G.a3,l3,?_⟩;refine⟨_,rfl,_,rfl,t,_,_,_,rfl,rfl,ht,rfl,g,z.1,aa,aL,aW,rfl,Zj,jU,λp H1 s1 e1=>?_⟩;refine⟨_,rfl,t,_,_,_,rfl,rfl,s1.tup ht,rfl,_,_,rfl,rfl,_,rfl,p,_,rfl,e1,λp2 H2 s2 e2=>?_⟩;have YY:((dP aa z.1).drop (z.2.1+1)).length<=10:=by
  rw [mz];have:(dP aa z.1).length<=8:=xt h8 z.1;omega
 have zy:aY K H2 p2 (((dP aa z.1).drop (z.2.1+1)).map V.str):=by
  rw [<-vI];exact e2
 have eqE:∀y,MU kE y=decide (y∈aL.map 82):=vE;have eqF:MU kE=λy=>decide (y∈aL.map 82):=funext eqE;generalize hbh:(dP aa z.1).drop (z.2.1+1)=bh at YY zy q;clear e2;have AZ:=s1.trans s2;have S2:=S.same AZ;obtain⟨dx,JI,ea,_,_,_,_,f5⟩:=S2.ia;refine⟨λσ H4=>∃(L:Addr) (Nj:z0t),σ=[aE g,aE t,aE Bd,aE bt,aE p2,aE L]/\H L=none/\aD H2 H4/\H4 L=some (.lst (Nj.map V.str))/\Nj.length<=1/\(∀w,w∈Nj↔w=z.2.2/\bh.all (λy=>decide (y∈aL.map 82))=true),?_,?_⟩
 .refine⟨_,rfl,bt,dx,JI,rfl,ea,f5.2.2.1,_,rfl,(λ_=>none),bt,e,d,bg,p2,kE,aL,ps,aW,bh,rfl,S2,zy,YY,λH3 s3=>?_⟩;rw [eqF];refine⟨_,rfl,?_⟩;have WX:=AZ.trans s3;refine 184
  .refine⟨_,rfl,t,_,_,_,rfl,rfl,WX.tup ht,rfl,Fg,λL hL=>?_⟩;exact⟨L,[z.2.2],rfl,none_of WX hL,s3.trans (af hL _),ae,aG 1,λw=>by rw [bA];exact⟨λy=>⟨y,c⟩,λy=>y.1⟩⟩
  refine⟨uo,λL hL=>?_⟩;exact⟨L,[],rfl,none_of WX hL,s3.trans (af hL _),ae,gp _,λw=>⟨λy=>(nomatch y),λy=>absurd y.2 c⟩⟩
 rintro σ H4 ⟨L,Nj,rfl,hL,s4,eL,l1x,P_⟩;have qE:=AZ.trans s4;have hB4:=qE _ _ hB;have nLB:L≠Bd:=λy=>by rw [y,hB] at hL;cases hL
 have RI:¬(HT.fM (A8 (pZ z)).length 0 none=0/\HT.fM (A8 (pZ z)).length (A8 (pZ z)).length (some 2)=(A8 (pZ z)).length):=λy=>absurd y.2 (by show ¬(2:Nat)=3;decide);have TZ:g8 (A8 (pZ z)) none (some 2)=(e_ z.1 z.2.1).map kV:=rfl;refine⟨λσ H5=>∃(nE:z0t),σ=[aE g,aE t,aE Bd,aE bt,aE p2,aE L]/\zS Bd H H5/\H5 L=some (.lst (nE.map V.str))/\H5 Bd=some (.dT (if (aZ kb (e_ z.1 z.2.1)).isSome=true then kb else kb++[(e_ z.1 z.2.1,.bl true)]))/\nE.length<=1001/\(∀w,w∈nE↔(w=z.2.2/\bh.all (λy=>decide (y∈aL.map 82))=true)\/((aZ kb (e_ z.1 z.2.1)).isSome=false/\PL (hd aa) aW (λy=>decide (y∈aL.map 82)) bh w)),?_,?_⟩
 .refine⟨_,rfl,_,rfl,t,_,rfl,qE.tup ht,RI,λb hb=>?_⟩;rw [TZ];have k5:=af hb (.tup ((e_ z.1 z.2.1).map kV));have eb:upd H4 b (.tup ((e_ z.1 z.2.1).map kV)) b=some (.tup ((e_ z.1 z.2.1).map kV)):=ae;generalize upd H4 b (.tup ((e_ z.1 z.2.1).map kV))=H5 at k5 eb;have WY:=qE.trans k5;have Zf:=k5 _ _ hB4;refine⟨_,rfl,Bd,_,rfl,cg.t Zf eb,_,rfl,?_⟩;refine 184
  .have cn:(aZ kb (e_ z.1 z.2.1)).isSome=false:=by
    cases y:(aZ kb (e_ z.1 z.2.1)).isSome with
    | false=>rfl
    | true=>rw [y] at c;cases c
   have vn:aZ kb (e_ z.1 z.2.1)=none:=by
    cases y:aZ kb (e_ z.1 z.2.1) with
    | none=>rfl
    | some _=>rw [y] at cn;cases cn
   refine⟨_,rfl,_,rfl,_,rfl,t,_,rfl,WY.tup ht,RI,λb2 IA=>?_⟩;rw [TZ];have k6:=af IA (.tup ((e_ z.1 z.2.1).map kV));have eb2:upd H5 b2 (.tup ((e_ z.1 z.2.1).map kV)) b2=some (.tup ((e_ z.1 z.2.1).map kV)):=ae;generalize upd H5 b2 (.tup ((e_ z.1 z.2.1).map kV))=H6 at k6 eb2;have s16:=WY.trans k6;have Qk:=k6 _ _ Zf;refine⟨Bd,_,rfl,jX.t Qk eb2 (bB ∅),?_⟩;rw [kO _ vn];have Ma:zS Bd H6 (upd H6 Bd (.dT (kb++[(e_ z.1 z.2.1,V.bl true)]))):=λy o ny hy=>by rw [aj ny];exact hy
   have Pm:upd H6 Bd (.dT (kb++[(e_ z.1 z.2.1,V.bl true)])) Bd=some (.dT (kb++[(e_ z.1 z.2.1,V.bl true)])):=ae;generalize upd H6 Bd (.dT (kb++[(e_ z.1 z.2.1,V.bl true)]))=H7 at Ma Pm;have TL:H7 L=some (.lst (Nj.map V.str)):=Ma _ _ nLB (k6 _ _ (k5 _ _ eL));have S7:oC K C (λ_=>none) H7 bt e d bg kE aL ps aW:=B_ (S.same s16) (λ_ _ z=>uU Ma Qk z λ_ y=>by cases y) (λ_ _ z=>uU Ma Qk z λ_ y=>by cases y) (λ_ _ z=>FR Ma Qk z) λ_ _ z=>uU Ma Qk z λ_ y=>by cases y
   obtain⟨dx,JI,ea,_,_,_,_,f5⟩:=S7.ia;refine⟨_,rfl,.inl ⟨rfl,_,aI.of TL⟩,_,rfl,bt,dx,JI,rfl,ea,f5.2.1,_,rfl,(λ_=>none),bt,e,d,bg,p2,kE,aL,ps,aW,bh,rfl,S7,FR Ma Qk (k6.tup (k5.tup (s4.tup zy))),YY,Zh,λD kvs ks H8 fD s8 eD kk nd qp aat=>?_⟩;have lk:kvs.length=ks.length:=by have:=congrArg List.length kk;rw [au,au] at this;exact this
   have eL8:=s8 _ _ TL;refine⟨L,D,_,_,eL8,eD,176,?_⟩;refine⟨Nj++ks,rfl,λy o ny hy=>?_,by rw [ae,Et kk,bj],?_,by rw [a8];omega,λw=>?_⟩
   .rw [aj (λy2=>by rw [y2,hL] at hy;cases hy)];exact s8 _ _ (Ma _ _ ny (s16 _ _ hy))
   .rw [aj (d8 nLB),cn];exact s8 _ _ Pm
   rw [bO,P_,qp,eqF,mps,cn];exact⟨λy=>y.elim Or.inl λy=>.inr ⟨rfl,y⟩,λy=>y.elim Or.inl λy=>.inr y.2⟩
  have cn:(aZ kb (e_ z.1 z.2.1)).isSome=true:=by
   cases y:(aZ kb (e_ z.1 z.2.1)).isSome with
   | true=>rfl
   | false=>rw [y] at c;exact absurd rfl c
  refine⟨Nj,rfl,λy o ny hy=>WY y o hy,k5 _ _ eL,by rw [aw cn];exact Zf,∅,λw=>?_⟩;rw [P_,cn];exact⟨Or.inl,λy=>y.elim id λy=>by cases y.1⟩
 rintro σ H5 ⟨nE,rfl,sx,B3,eB5,l5,Vb⟩;exact⟨_,rfl,q L nE H5 hL sx B3 eB5 l5 Vb⟩
end
inductive mi (R:Pl->Pl->Prop)(ps:List Pl):Pl->Prop
 | base {z:Pl}:z∈ps->mi R ps z
 | step {z y:Pl}:mi R ps z->R z y->mi R ps y
def mi.mono {R S:Pl->Pl->Prop}{ps qs:List Pl}(h:∀a b,R a b->S a b)(g:∀z∈ps,mi S qs z){z:Pl}(c:mi R ps z):mi S qs z:=by
 induction c with
 | base h=>exact g _ h
 | step _ r ih=>exact .step ih (h _ _ r)
structure Af (R1 R2:Pl->Pl->Prop)(ps fs ws:List Pl)(bs:z0g):Prop where
 nd:fs.Nodup
 snd:∀z,z∈fs\/z∈ws->mi (λa b=>R1 a b\/R2 a b) ps z
 all:∀z∈ps,z∈fs\/z∈ws
 r:∀z∈fs,∀y,R1 z y\/R2 z y->y∈fs\/y∈ws
 bg:∀z:Pl,(z.1,z.2.1)∈bs->∀y,R2 z y->y∈fs\/y∈ws
def Af.init (R1 R2:Pl->Pl->Prop)(ps:List Pl):Af R1 R2 ps [] ps [] :=
 ⟨gE,λz h=>h.elim (λh=>(nomatch h)) .base,λz h=>.inr h,λz h=>(nomatch h),λz h=>(nomatch h)⟩
def Af.old {R1 R2:Pl->Pl->Prop}{ps fs ws:List Pl}{bs:z0g}{z:Pl}(h:Af R1 R2 ps fs (ws++[z]) bs)(hz:z∈fs):Af R1 R2 ps fs ws bs:=by
 have k:∀y,y∈fs\/y∈ws++[z]->y∈fs\/y∈ws:=λy hy=>hy.elim .inl λhy=>(bO.mp hy).elim .inr λhy=>.inl (bA.mp hy ▸ hz);exact⟨h.nd,λy hy=>h.snd y (hy.imp id λhy=>eI _ hy),λy hy=>k y (h.all y hy),λy hy x hx=>k x (h.r y hy x hx),λy hy x hx=>k x (h.bg y hy x hx)⟩
theorem Af.new {R1 R2:Pl->Pl->Prop}{ps fs ws new:List Pl}{bs QA:z0g}{z:Pl}(h:Af R1 R2 ps fs (ws++[z]) bs)(hz:z∉fs)(hn:∀y∈new,R1 z y\/R2 z y)(h1:∀y,R1 z y->y∈new)(h2:∀y,R2 z y->(z.1,z.2.1)∈bs\/y∈new)
  (hb:∀q∈QA,q∈bs\/(q=(z.1,z.2.1)/\(z.1,z.2.1)∉bs))(dep:∀a b y:Pl,(a.1,a.2.1)=(b.1,b.2.1)->R2 a y->R2 b y):Af R1 R2 ps (fs++[z]) (ws++new) QA:=by
 have k:∀y,y∈fs\/y∈ws++[z]->y∈fs++[z]\/y∈ws++new:=λy hy=>hy.elim (λhy=>.inl (eI _ hy)) λhy=>(bO.mp hy).elim (λhy=>.inr (eI _ hy)) λhy=>.inl (dM _ hy);have cz:=h.snd z (.inr (dM _ (bA.mpr rfl)));have r2:∀y,R2 z y->y∈fs++[z]\/y∈ws++new:=λy r=>(h2 y r).elim (λq=>k y (h.bg z q y r)) λq=>.inr (dM _ q);refine⟨iI.mpr ⟨h.nd,g_.mpr ⟨85,gE⟩,λa ha b hb e=>hz (by rw [<-bA.mp hb,<-e];exact ha)⟩,λy hy=>?_,λy hy=>k y (h.all y hy),λy hy x hx=>?_,λy hy x hx=>?_⟩
 .rcases hy with hy | hy
  .rcases bO.mp hy with hy | hy
   .exact h.snd y (.inl hy)
   rw [bA.mp hy];exact cz
  rcases bO.mp hy with hy | hy
  .exact h.snd y (.inr (eI _ hy))
  exact .step cz (hn y hy)
 .rcases bO.mp hy with hy | hy
  .exact k x (h.r y hy x hx)
  rw [bA.mp hy] at hx;exact hx.elim (λr=>.inr (dM _ (h1 x r))) (r2 x)
 rcases hb _ hy with q | ⟨q,_⟩
 .exact k x (h.bg y q x hx)
 exact r2 x (dep y z x q hx)
def Af.done {R1 R2:Pl->Pl->Prop}{ps fs:List Pl}{bs:z0g}(h:Af R1 R2 ps fs [] bs)(z:Pl):z∈fs↔mi (λa b=>R1 a b\/R2 a b) ps z:=by
 refine⟨λhz=>h.snd z (.inl hz),λc=>?_⟩;have k:∀y,y∈fs\/y∈([]:List Pl)->y∈fs:=λy hy=>hy.elim id λhy=>nomatch hy
 induction c with
 | base hz=>exact k _ (h.all _ hz)
 | step _ r ih=>exact k _ (h.r _ ih _ r)
def Ld (aa:83)(z:Pl) (i:Nat):Prop:=∃nm ru,(dP aa z.1)[z.2.1]?=some nm/\aa[i]?=some ru/\ru.1=nm
def JT (aa:83)(z:Pl):z0t:=(dP aa z.1).drop (z.2.1+1)
def LQ (aa:83)(nl:Str->Bool)(z y:Pl):Prop:=Ld aa z y.1/\y.2.1=0/\y.2.2=z.2.2/\(JT aa z).all nl=true
def uL (aa:83)(nl:Str->Bool)(aW:List Be)(z y:Pl):Prop:=Ld aa z y.1/\y.2.1=0/\PL (hd aa) aW nl (JT aa z) y.2.2
def uL.dep {aa:83}{nl:Str->Bool}{aW:List Be}(a b y:Pl)(e:(a.1,a.2.1)=(b.1,b.2.1))(h:uL aa nl aW a y):uL aa nl aW b y:=by
 obtain⟨e1,e2⟩:=Prod.mk.inj e;unfold uL Ld JT at h ⊢;rw [e1,e2] at h;exact h
def tH {R:Pl->Pl->Prop}{ps:List Pl}{n:Nat}{ts:z0t}(hR:∀a b,R a b->b.1 < n/\b.2.1=0/\(b.2.2=a.2.2\/b.2.2∈ts))(l:List Pl)(nd:l.Nodup)(h:∀z∈l,mi R ps z):l.length<=ps.length+n * (ps.length+ts.length):=by
 have key:∀z,mi R ps z->(z.2.2∈ps.map (·.2.2)++ts)/\(z∈ps\/(z.1 < n/\z.2.1=0)):=λz c=>by
  induction c with
  | base h=>exact⟨eI _ (bY.mpr ⟨_,h,rfl⟩),.inl h⟩
  | step _ r ih =>
   obtain⟨a,b,c⟩:=hR _ _ r;refine⟨?_,.inr ⟨a,b⟩⟩;rcases c with c | c
   .rw [c];exact ih.1
   exact dM _ c
 have:=M21.mK l (ps++(List.range n).flatMap λi=>(ps.map (·.2.2)++ts).map λw=>(i,0,w)) nd λz hz=>by
  obtain⟨k1,k2⟩:=key z (h z hz);rcases k2 with k2 | ⟨k2,k3⟩
  .exact eI _ k2
  exact dM _ (jh.mpr ⟨z.1,j4.mpr k2,bY.mpr ⟨z.2.2,k1,by rw [<-k3]⟩⟩)
 rw [a8] at this;have fl:∀l:List Nat,(l.flatMap λi=>(ps.map (·.2.2)++ts).map λw=>((i,0,w):Pl)).length=l.length * (ps.length+ts.length):=λl=>by
  induction l with
  | nil=>simp
  | cons a r ih=>rw [pO,a8,ih,au,a8,au,dI,Nat.succ_mul,Nat.add_comm]
 rw [fl,qT] at this;exact this
section
def pU {α β:Type}{F:α->β->Prop}{us:List α}{ts:List β}(p:Paired F us ts)(h:us≠[]):∃jl u rR t,us=jl++[u]/\ts=rR++[t]/\Paired F jl rR/\F u t:=by
 have p2:=Paired.NR p;have hr:us.reverse≠[]:=λz=>h (List.reverse_eq_nil_iff.mp z);generalize e1:us.reverse=iX at p2 hr;generalize e2:ts.reverse=yf at p2;cases p2 with
 | nil=>exact absurd rfl hr
 | @cons u t wJ UJ a b =>
  refine⟨wJ.reverse,u,UJ.reverse,t,?_,?_,Paired.NR b,a⟩
  .rw [<-List.reverse_reverse us,e1,wa]
  rw [<-List.reverse_reverse ts,e2,wa]
def yI {us:List V}{u:V}:(us++[u])[(us++[u]).length - 1]?=some u:=by
 rw [a8];simp
def kx {κ:Type} [DecidableEq κ] (kvs:List (κ×V))(k:κ){ks:List κ}(hk:kvs.map 82=ks):(k∈ks->(aZ kvs k).isSome=true)/\(k∉ks->aZ kvs k=none):=by
 subst hk;have h:(aZ kvs k).isSome=true↔k∈kvs.map 82:=by
  rw [<-iJ,List.any_eq_true,bY];refine⟨λbI=>?_,λ⟨x,h,e⟩=>⟨x,h,cE e⟩⟩;obtain⟨x,h,e⟩:=bI;exact⟨x,h,cW e⟩
 refine⟨h.mpr,λn=>?_⟩;cases y:aZ kvs k with
 | none=>rfl
 | some _=>exact absurd (h.mp (by rw [y];rfl)) n
def Jb {a b c d:Nat}(h:e_ a b=e_ c d):(a,b)=(c,d):=by
 simp only [e_,List.cons.injEq,Sum.inl.injEq,and_true] at h;exact gN ∅ ∅
def j9 (z:Pl):List aN:=P5 (pZ z)
def K7 {a b:Pl}(h:j9 a=j9 b):a=b:=N4 (Kw h)
def qK {fs:List Pl}{z:Pl}:j9 z∈fs.map j9↔z∈fs:=⟨λh=>by obtain⟨y,hy,e⟩:=bY.mp h;rw [<-K7 e];exact hy,λh=>iw h⟩
def zP {bs:z0g}{a b:Nat}:e_ a b∈bs.map (λq=>e_ q.1 q.2)↔(a,b)∈bs:=⟨λh=>by obtain⟨y,hy,e⟩:=bY.mp h;rw [<-Jb e];exact hy,λh=>bY.mpr ⟨_,h,rfl⟩⟩
def gG {H H':Hp}{D:Addr}{o:HO}(s:aD H H')(h:H D=none):aD H (upd H' D o):=λb x hb=>by
 rw [aj (λz=>by rw [z,h] at hb;cases hb)];exact s b x hb
structure ClS (H H5:Hp)(F B W:Addr)(us:z0q)(fs ws:List Pl)(bs:z0g):Prop where
 sm:aD H H5
 eF:∃kf,H5 F=some (.dT kf)/\kf.map 82=fs.map j9
 eB:∃kb,H5 B=some (.dT kb)/\kb.map 82=bs.map λq=>e_ q.1 q.2
 eW:H5 W=some (.lst (us.map V.ref))
 pw:Paired (j8 H5) us ws
def dq {H:Hp}{A t:Addr}{z:Pl}{o o2:HO}(hA:H A=some o)(n:∀xs,o≠.tup xs)(h:j8 H t z):j8 (upd H A o2) t z:=by
 unfold j8 at h ⊢;rw [aj (λy=>by rw [y,hA] at h;exact n _ (hJ h))];exact h
def cA (aa:83)(nm w:Str):List Pl:=((List.range aa.length).filter (y_ aa nm)).map λk=>(k,0,w)
def pN (k:P3):Pl:=(k.1.toNat,k.2.1.toNat,k.2.2)
def pT {H:Hp}{fs:List Pl}{ts:z0q}{zs:List P3}(pr:Paired (λt z=>H t=some (.tup (A8 z))) ts zs)(pm:zs.Perm (fs.map pZ)):zs=(zs.map pN).map pZ/\Paired (j8 H) ts (zs.map pN)/\(zs.map pN).Perm fs:=by
 have h1:∀x∈zs,pZ (pN x)=x:=λx hx=>by
  obtain⟨y,_,rfl⟩:=bY.mp (pm.mem_iff.mp hx);rfl
 have h2:zs=(zs.map pN).map pZ:=by
  rw [fc]
  conv=>lhs;rw [<-List.map_id zs]
  exact rC λx hx=>(h1 x hx).symm
 refine⟨h2,?_,?_⟩
 .rw [h2] at pr;clear h1 h2 pm;generalize zs.map pN=l at pr
  induction l generalizing ts with
  | nil=>cases pr;exact .nil
  | cons a l ih=>cases pr with | cons x y=>exact .cons x (ih y)
 have:=pm.map pN;rw [fc] at this;rw [show (pN ∘ pZ)=id from rfl,List.map_id] at this;exact this
def xE {aa:83}{z:Pl}{nm:Str}(h:(dP aa z.1)[z.2.1]?=some nm) (i:Nat):Ld aa z i↔i < aa.length/\y_ aa nm i=true:=by
 unfold Ld y_;rw [decide_eq_true_iff];constructor
 .rintro⟨nm2,ru,h1,h2,h3⟩;rw [h] at h1;cases h1;exact⟨(bw.mp h2).1,by rw [h2];exact congrArg some h3⟩
 rintro⟨l,e⟩;obtain⟨ru,h2,h3⟩:=b0.mp e;exact⟨nm,ru,h,h2,h3⟩
def pj {aa:83}{z:Pl}{nm:Str}(h:(dP aa z.1)[z.2.1]?=some nm){y:Pl}{w:Str}:y∈cA aa nm w↔y.2=(0,w)/\Ld aa z y.1:=by
 unfold cA;rw [bY];constructor
 .rintro⟨k,hk,rfl⟩;obtain⟨h1,h2⟩:=gF.mp hk;exact⟨rfl,(xE h k).mpr ⟨j4.mp h1,h2⟩⟩
 rintro⟨e,l⟩;obtain⟨h1,h2⟩:=(xE h y.1).mp l;exact⟨y.1,gF.mpr ⟨j4.mpr h1,h2⟩,gN rfl e.symm⟩
def ju (aa:83)(nm w:Str):(cA aa nm w).length<=aa.length:=by
 unfold cA;rw [au];have:=jk (y_ aa nm) (List.range aa.length);rw [qT] at this;exact this
def K2 {aa:83}{z:Pl}{nm:Str}(h:(dP aa z.1)[z.2.1]?=some nm){i:Nat}(l:Ld aa z i):nm∈hd aa:=by
 obtain⟨nm2,ru,h1,h2,h3⟩:=l;rw [h] at h1;cases h1;exact h3 ▸ C8 (cC h2)
def KS (aL:z0h):Str->Bool:=λy=>decide (y∈aL.map 82)
def x9 (aa:83)(aL:z0h)(aW:List Be)(a b:Pl):Prop:=LQ aa (KS aL) a b\/uL aa (KS aL) aW a b
def yz (K:bp)(C Cg:Addr):Sp:=λvs H Q _=>∃(g p:Addr)(ts:z0q)(ps:List Pl)(aa:83)(aL:z0h)(aW:List Be),vs=[.ref g,.ref p]/\Nc K C Cg H g aa aL aW/\aa≠[]/\aa.length<=8/\198/\aW.length<=63/\aI K H p (ts.map V.ref)/\Paired (j8 H) ts ps/\ps.length<=100/\(∀l:List Pl,l.Nodup->(∀z∈l,mi (x9 aa aL aW) ps z)->l.length < 64) /\
 ∀(L:Addr)(us:z0q)(zs:List Pl)(H':Hp),H L=none->aD H H'->H' L=some (.lst (us.map V.ref))->Paired (j8 H') us zs->LR KY (zs.map pZ)->zs.Nodup->(∀z,z∈zs↔mi (x9 aa aL aW) ps z)->Q (.ref L) H'
def il:aK ["grammar","places","numbers","found","begun","waiting","place","name","text"] ["grammar","places"] (ay xn):=152
def Ec {C Cg:Addr}(F:ir K "closed_list" "closed_list" xn f fd)(T:Txt mg)(jJ:mg "sorted"=none)(G:GC K Cg)(GN:aF P w K mg base 3 "numbers_by_name" ["rules"] (AE K))
  (GA:aF P w K mg base 3 "part_at" ["grammar","place"] (rY K C Cg))(GB:aF P w K mg base 3 "texts_behind" ["grammar","place","begun"] (yA K C Cg)):bR P w K mg base fK 4 f fd ["grammar","places"] (yz K C Cg):=by
 refine F.ok il 157 161
 .obtain⟨g,p,ts,ps,aa,aL,aW,rfl,_⟩:=h;rfl
 obtain⟨g,p,ts,ps,aa,aL,aW,rfl,gv,jU,r8,h8,Zh,hp,JE,XR,qO,q⟩:=h;have hu:=fY hr;refine⟨_,ai (az (i:=2) il.nd rfl 84 (bu GN hr rfl (ab (dr (pv 0) rfl) ak)))
  (ai (az (i:=3) il.nd rfl 84 sG)
  (ai (az (i:=4) il.nd rfl 84 sG)
  (ai (az (i:=5) il.nd rfl 84 (bL gi rfl T.lst gy (ab (pv 1) ak)))
  (ai (ip bV (iN (pv 5) (λ_=>rfl))
   (ai (az (i:=6) il.nd rfl 84 (G9 gw PySem.F.slot_list_pop PySem.F.type_list_pop HV (pv 5)))
   (ao (cq (fw (dC hu (pv 6) (pv 3)))
    (ai (fC hu (pv 3) (pv 6) fq rfl)
    (ai (az (i:=7) il.nd rfl 84 (bu GA hr rfl (ab (pv 0) (ab (pv 6) ak))))
    (ao (cq (a_ (N7 hu) (pv 7) (pv 2) rfl)
     (ao (bJ bV rfl (aR (bu GB hr rfl (ab (pv 0) (ab (pv 6) (ab (pv 4) ak))))) (aq (i:=8) il.nd rfl (Or.inr rfl))
      (ao (cT (gX gw yk Ar vf (pv 5) (ab
       (aV ["number"] [(8,"text")] rfl (aR (fI hu (pv 2) (pv 7) 137)) (aS rfl rfl) nofun rfl nofun
        (λ_ _ _ _ _=>aq (i:=0) (show (["number","text"]:z0t).Nodup by decide +kernel) rfl 84) 177
        (λ_ _ _ _ _=>bW (ab (pv 0) (ab av (ab (pv 1) ak))))) ak))))))
     a7))))
    a7))))
  (ao (br (aP (qf rfl) rfl jJ PyProof.Rows.boot_sorted (ab (pv 3) ak)))))))),?_⟩
 nofun
 have Zj:=gv;obtain⟨Hg,rs,ss,bt,⟨gx,fs,R2,S2,eg,l1,l2,l3,l4,e1,e2,_,__1⟩,cI,YX⟩:=gv;refine⟨_,rfl,g,Cg,gx,fs,_,rfl,eg,G.cls,G.a1,l1,R2,rs,aa,rfl,aI.of e1,cI,∅,λd P6 H1 Vt s1 nv SH _=>?_⟩;intro Fa Te;have k2:=af Te (.dT []);have MY:upd H1 Fa (.dT []) Fa=some (.dT []):=ae;generalize upd H1 Fa (.dT [])=H2 at k2 MY;intro Ba Vy;have k3:=af Vy (.dT []);have Z0:upd H2 Ba (.dT []) Ba=some (.dT []):=ae;have nFB:Fa≠Ba:=λy=>by rw [<-y,MY] at Vy;cases Vy
 generalize upd H2 Ba (.dT [])=H3 at k3 Z0;have s3:=(s1.trans k2).trans k3;refine⟨_,rfl,p,_,rfl,.inl (s3.seq hp),λWa IB=>?_⟩;have k4:=af IB 163;have TH:upd H3 Wa 163 Wa=some 163:=ae;have XE:Ba≠Wa:=λy=>by rw [<-y,Z0] at IB;cases IB
 have Oh:Fa≠Wa:=λy=>by rw [<-y,k3 _ _ MY] at IB;cases IB
 generalize upd H3 Wa 163=H4 at k4 TH;have fF:H1 Fa=none:=Te;have fB:H1 Ba=none:=none_of k2 Vy;have fW:H1 Wa=none:=none_of (k2.trans k3) IB;have qE:aD H1 H4:=(k2.trans k3).trans k4;have gv1:=Zj.same s1;refine⟨λm σ H5=>∃(us:z0q)(fs ws:List Pl)(bs:z0g)(y6 y7 y8:Option V),σ=[aE g,aE p,aE d,aE Fa,aE Ba,aE Wa,y6,y7,y8]/\ClS H1 H5 Fa Ba Wa us fs ws bs/\Af (LQ aa (KS aL)) (uL aa (KS aL) aW) ps fs ws bs/\m=(64 - fs.length) * 10000+ws.length/\ws.length<=100+fs.length * 8008/\bs.length<=fs.length,
  ⟨_,ts,[],ps,[],none,none,none,rfl,⟨qE,⟨_,k4 _ _ (k3 _ _ MY),rfl⟩,⟨_,k4 _ _ Z0,rfl⟩,TH,Paired.b_ JE λ_ _ z=>k4 _ _ (s3 _ _ z)⟩,Af.init _ _ _,rfl,∅,aG _⟩,?_⟩
 rintro m σ H5 ⟨us,lH,ws,bs,y6,y7,y8,rfl,cs,ct,em,lw,lb⟩;refine⟨_,rfl,!(us.map V.ref).isEmpty,.inl ⟨_,aI.of cs.eW,rfl⟩,?_⟩;refine 184
 .obtain⟨jl,u,z6,z,rfl,rfl,W_,hz⟩:=pU cs.pw (λy=>by rw [y] at c;cases c);refine⟨_,λ_ _ h=>h,?_⟩;obtain⟨kf,eF,C5⟩:=cs.eF;obtain⟨kb,eB,OH⟩:=cs.eB;have eW:H5 Wa=some (.lst (jl.map V.ref++[V.ref u])):=by have:=cs.eW;rw [bj] at this;exact this
  rw [a8] at em lw;simp only [fO] at em lw;have lkf:kf.length=lH.length:=by have:=congrArg List.length C5;rw [au,au] at this;exact this
  have lkb:kb.length=bs.length:=by have:=congrArg List.length OH;rw [au,au] at this;exact this
  have lfs:lH.length < 64:=qO lH ct.nd λy hy=>ct.snd y (.inl hy);refine⟨_,rfl,.inl ⟨rfl,_,aI.of eW⟩,Wa,_,.ref u,rfl,rfl,eW,yI,?_⟩;rw [List.dropLast_concat];have Nv:aD H1 (upd H5 Wa (.lst (jl.map V.ref))):=λb o hb=>by rw [aj (λy=>by rw [y,fW] at hb;cases hb)];exact cs.sm b o hb
  have ES:upd H5 Wa (.lst (jl.map V.ref)) Fa=some (.dT kf):=by rw [aj Oh];exact eF
  have ZZ:upd H5 Wa (.lst (jl.map V.ref)) Ba=some (.dT kb):=by rw [aj XE];exact eB
  have Pf:upd H5 Wa (.lst (jl.map V.ref)) Wa=some (.lst (jl.map V.ref)):=ae;have NZ:Paired (j8 (upd H5 Wa (.lst (jl.map V.ref)))) jl z6:=Paired.b_ W_ λ_ _ y=>dq eW (λ_ x=>by cases x) y;have JD:j8 (upd H5 Wa (.lst (jl.map V.ref))) u z:=dq eW (λ_ x=>by cases x) hz;generalize upd H5 Wa (.lst (jl.map V.ref))=H6 at Nv ES ZZ Pf NZ JD;refine⟨_,rfl,_,rfl,Fa,_,rfl,cg.t (k:=j9 z) ES JD,_,rfl,?_⟩;by_cases Ex:z∈lH
  .rw [(kx kf (j9 z) C5).1 (qK.mpr Ex)];refine iS ?_;exact⟨_,∅,jl,lH,z6,bs,_,_,_,rfl,⟨Nv,⟨kf,ES,C5⟩,⟨kb,ZZ,OH⟩,Pf,NZ⟩,ct.old Ex,rfl,∅,lb⟩
  have vn:=(kx kf (j9 z) C5).2 λy=>Ex (qK.mp y);rw [vn];refine By ?_;refine⟨_,rfl,_,rfl,Fa,_,rfl,jX.t (k:=j9 z) ES JD (bB ∅),?_⟩;rw [kO _ vn];have F6:aD H1 (upd H6 Fa (.dT (kf++[(j9 z,V.bl true)]))):=λb o hb=>by rw [aj (λy=>by rw [y,fF] at hb;cases hb)];exact Nv b o hb
  have Pk:upd H6 Fa (.dT (kf++[(j9 z,V.bl true)])) Fa=some (.dT (kf++[(j9 z,V.bl true)])):=ae;have Pm:upd H6 Fa (.dT (kf++[(j9 z,V.bl true)])) Ba=some (.dT kb):=by rw [aj (d8 nFB)];exact ZZ
  have JM:upd H6 Fa (.dT (kf++[(j9 z,V.bl true)])) Wa=some (.lst (jl.map V.ref)):=by rw [aj (d8 Oh)];exact Pf
  have NY:Paired (j8 (upd H6 Fa (.dT (kf++[(j9 z,V.bl true)])))) jl z6:=Paired.b_ NZ λ_ _ y=>dq ES (λ_ x=>by cases x) y;have ME:j8 (upd H6 Fa (.dT (kf++[(j9 z,V.bl true)]))) u z:=dq ES (λ_ x=>by cases x) JD;generalize upd H6 Fa (.dT (kf++[(j9 z,V.bl true)]))=H7 at F6 Pk Pm JM NY ME;have Io:(kf++[(j9 z,V.bl true)]).map 82=(lH++[z]).map j9:=by rw [bj,bj,C5];rfl
  have XU:lH.length+1 < 64:=by
   have:=qO (lH++[z]) (iI.mpr ⟨ct.nd,g_.mpr ⟨85,gE⟩,λa ha b hb e=>Ex (by rw [<-bA.mp hb,<-e];exact ha)⟩) λy hy=>by
    rcases bO.mp hy with hy | hy
    .exact ct.snd y (.inl hy)
    exact ct.snd y (.inr (dM _ hy))
   rw [a8] at this;exact this
  refine⟨_,rfl,_,rfl,g,u,z,aa,aL,aW,rfl,gv1.same F6,jU,aY.of ME,λH8 s8=>?_⟩;have Kf:=F6.trans s8;have nv8:=nv.same Kf;have stop:∀y7 y8:Option V,(∀i,¬Ld aa z i)->∃m',m' < m/\∃(us:z0q)(fs ws:List Pl)(bs:z0g)(y6 Wl Wk:Option V),[some (V.ref g),aE p,aE d,aE Fa,aE Ba,aE Wa,aE u,y7,y8]=[some (V.ref g),aE p,aE d,aE Fa,aE Ba,aE Wa,y6,Wl,Wk]/\ClS H1 H8 Fa Ba Wa us fs ws bs/\Af (LQ aa (KS aL)) (uL aa (KS aL) aW) ps fs ws bs/\m'=(64 - fs.length) * 10000+ws.length/\ws.length<=100+fs.length * 8008/\bs.length<=fs.length:=λy7 y8 no=>by
   have cn:=ct.new (new:=[]) (QA:=bs) Ex (λy hy=>nomatch hy) (λy r=>absurd r.1 (no _)) (λy r=>absurd r.1 (no _)) (λq hq=>.inl hq) uL.dep;rw [d_] at cn;exact⟨_,by rw [a8];simp only [fO];omega,jl,lH++[z],z6,bs,_,_,_,rfl,⟨Kf,⟨_,s8 _ _ Pk,Io⟩,⟨kb,s8 _ _ Pm,OH⟩,s8 _ _ JM,Paired.b_ NY λ_ _ y=>s8 _ _ y⟩,cn,rfl,by rw [a8];simp only [fO];omega,by rw [a8];omega⟩
  cases uk:(dP aa z.1)[z.2.1]? with
  | none =>
   refine⟨_,rfl,_,rfl,d,_,false,.inr ⟨rfl,rfl,_,.inl nv8.hd⟩,_,rfl,?_⟩;refine iS ?_;exact stop _ _ λi ⟨nm,ru,h1,_,__1⟩=>by rw [uk] at h1;cases h1
  | some nm =>
   refine⟨_,rfl,_,rfl,d,_,_,.inl ⟨_,cg.k (k:=.inr nm) nv8.hd,rfl⟩,_,rfl,?_⟩;have mem:(aZ (P6.map jw) (Sum.inr nm)).isSome=true↔nm∈hd aa:=by rw [eQ,lG,SH];exact de
   refine cf (λc2=>?_) (λc2=>stop _ _ λi l=>c2 (mem.mpr (K2 uk l)));obtain⟨pq,hpq,epq⟩:=bY.mp (SH ▸ mem.mp c2);subst epq;refine⟨_,rfl,_,rfl,_,rfl,g,u,Ba,z,aa,aL,aW,kb,rfl,gv1.same Kf,jU,h8,Zh,aY.of (s8 _ _ ME),s8 _ _ Pm,∅,λL nE H9 fL sx eL eB9 ltx qp=>?_⟩;have eB8:=s8 _ _ Pm;have UP:aD H1 H9:=λb o hb=>sx b o (λy=>by rw [y,fB] at hb;cases hb) (Kf b o hb);have ZS:=sx _ _ nFB (s8 _ _ Pk);have ZL:=sx _ _ (d8 XE) (s8 _ _ JM);have W9:Paired (j8 H9) jl z6:=Paired.b_ NY λ_ _ y=>uU sx eB8 (s8 _ _ y) λ_ x=>by cases x
   have nv9:=nv.same UP;have XC:L≠Wa:=λy=>by rw [y,s8 _ _ JM] at fL;cases fL
   obtain⟨Qz,hb9,Y1,Y0,lb9⟩:∃Qz:z0g,(if (aZ kb (e_ z.1 z.2.1)).isSome=true then kb else kb++[(e_ z.1 z.2.1,V.bl true)]).map 82=Qz.map (λq=>e_ q.1 q.2)/\(∀q∈Qz,q∈bs\/(q=(z.1,z.2.1)/\(z.1,z.2.1)∉bs))/\((aZ kb (e_ z.1 z.2.1)).isSome=true->(z.1,z.2.1)∈bs)/\Qz.length<=bs.length+1:=by
    have vm:=kx kb (e_ z.1 z.2.1) OH;by_cases hb:(z.1,z.2.1)∈bs
    .rw [vm.1 (zP.mpr hb),aw rfl];exact⟨bs,OH,λq hq=>.inl hq,λ_=>hb,∅⟩
    have vn2:=vm.2 λy=>hb (zP.mp y);rw [vn2];refine⟨bs++[(z.1,z.2.1)],?_,λq hq=>?_,(λy=>by cases y),by rw [a8];simp⟩
    .rw [ar 135,bj,bj,OH];rfl
    rcases bO.mp hq with hq | hq
    .exact .inl hq
    exact .inr ⟨bA.mp hq,hb⟩
   generalize (if (aZ kb (e_ z.1 z.2.1)).isSome=true then kb else kb++[(e_ z.1 z.2.1,V.bl true)])=kb9 at eB9 hb9;refine⟨L,rfl,⟨_,aI.of eL⟩,?_⟩;refine bP (xs:=nE.map V.str) (λi σ HA=>∃(y8:Option V)(iX:z0q),σ=[aE g,aE p,aE d,aE Fa,aE Ba,aE Wa,aE u,some (.str pq.1),y8]/\aD H1 HA/\HA Fa=some (.dT (kf++[(j9 z,V.bl true)]))/\HA Ba=some (.dT kb9)/\HA L=some (.lst (nE.map V.str))/\HA Wa=some (.lst ((jl++iX).map V.ref))/\Paired (j8 HA) (jl++iX) (z6++(nE.take i).flatMap (cA aa pq.1))) ⟨_,[],rfl,UP,ZS,eB9,eL,by rw [d_];exact ZL,by rw [d_];simpa using W9⟩ ?_ ?_ ?_
   .rintro i σ HA _ ⟨y8,iX,rfl,_,_,_,Ly,_⟩;exact aI.of Ly
   .intro i x σ HA ex mU
    ac_nf0
    obtain⟨y8,iX,rfl,sA,Pj,ZY,Ly,JL,GQ⟩:=mU;rw [a0] at ex;obtain⟨w1,ew,rfl⟩:=b0.mp ex;have Xj:=nv.same sA;have YL:cg HA d (.str pq.1) (some (.ref pq.2)):=by
     have:=cg.k (k:=.inr pq.1) Xj.hd;rw [gP P6 Xj.n1 pq hpq] at this;exact this
    have eq0:=Xj.lst pq hpq;refine goN ?_
    ac_nf
    refine⟨_,rfl,.inl ⟨rfl,_,aI.of JL⟩,_,rfl,_,rfl,d,_,rfl,YL,pq.2,rfl,⟨_,aI.of eq0⟩,λD hD=>?_⟩;have lnk:=ju aa pq.1 w1;have XS:(nums aa pq.1 aa.length).length=(cA aa pq.1 w1).length:=by unfold nums cA;rw [au,au]
    have nDW:D≠Wa:=λy=>by rw [y,JL] at hD;cases hD
    refine bT (xs:=(nums aa pq.1 aa.length).map V.int) (λj ys σ2 H2=>∃vs:z0q,ys=vs.map V.ref/\Paired (j8 H2) vs ((cA aa pq.1 w1).take j)/\(∃y0,σ2=[y0,some (.str w1)])/\aD HA H2/\H2 D=some (.lst ys)) ⟨[],rfl,.nil,⟨none,rfl⟩,af hD _,ae⟩ ?_ ?_ ?_
    .rintro j ys σ2 H2 _ ⟨vs,_,_,_,jn,_⟩;exact aI.of (jn _ _ eq0)
    .rintro j x ys σ2 H2 iH ⟨vs,rfl,DP,⟨y0,rfl⟩,jn,ou⟩;obtain⟨k,ek,en⟩:∃k:Nat,x=V.int (k:Int)/\(cA aa pq.1 w1)[j]?=some (k,0,w1):=by
      unfold nums at iH;rw [fc,a0] at iH;obtain⟨k,hk,e⟩:=b0.mp iH;exact⟨k,e.symm,by unfold cA;rw [a0,hk];rfl⟩
     subst ek;have lv:=bc DP;rw [dJ] at lv;refine goN (vq ?_);refine⟨_,rfl,_,rfl,Jt,λt ht=>?_⟩;have k3:=af ht (.tup [V.int (k:Int),V.int 0,V.str w1]);have et:j8 (upd H2 t (.tup [V.int (k:Int),V.int 0,V.str w1])) t (k,0,w1):=ae;generalize upd H2 t (.tup [V.int (k:Int),V.int 0,V.str w1])=H3 at k3 et;have uF:=k3 _ _ ou;refine⟨uF,176,vs++[t],by rw [bj];rfl,?_,⟨_,rfl⟩,gG (jn.trans k3) hD,ae⟩;rw [cO,en];exact gk (Paired.b_ DP λ_ _ y=>dq uF (λ_ x=>by cases x) (k3 _ _ y)) (dq uF (λ_ x=>by cases x) et)
    rintro ys σ2 H2 ⟨vs,rfl,DP,_,jn,ou⟩;rw [au,XS,cw] at DP;have lv:=bc DP;have XQ:=bc GQ;have Pg:=jn _ _ JL;have lfl:((nE.take i).flatMap (cA aa pq.1)).length<=8008:=by
     have h:∀l:z0t,(l.flatMap (cA aa pq.1)).length<=l.length * 8:=λl=>by
      induction l with
      | nil=>simp
      | cons a r ih=>rw [pO,a8,dI];have:=ju aa pq.1 a;omega
     have h2:=h (nE.take i);rw [dJ] at h2;omega
    rw [a8,a8] at XQ;refine⟨Wa,D,_,_,rfl,rfl,Pg,ou,fits (by rw [au,au,a8];omega),?_⟩;have kW:∀y o,y≠Wa->H2 y=some o->upd H2 Wa (.lst ((jl++iX).map V.ref++vs.map V.ref)) y=some o:=λy o ny hy=>by rw [aj ny];exact hy
    refine⟨_,iX++vs,rfl,λb o hb=>kW b o (λy=>by rw [y,fW] at hb;cases hb) (jn _ _ (sA b o hb)),kW _ _ Oh (jn _ _ Pj),kW _ _ XE (jn _ _ ZY),kW _ _ XC (jn _ _ Ly),by rw [ae,<-bj,iu],?_⟩;rw [<-iu,cO,ew,rB,<-iu];refine Paired.Jc (Paired.b_ GQ λ_ _ y=>dq Pg (λ_ x=>by cases x) (jn _ _ y)) ?_;have:(some w1).toList.flatMap (cA aa pq.1)=cA aa pq.1 w1:=85
    rw [this];exact Paired.b_ DP λ_ _ y=>dq Pg (λ_ x=>by cases x) y
   rintro σ HA ⟨y8,iX,rfl,sA,Pj,ZY,Ly,JL,GQ⟩;rw [au,cw] at GQ;have ln:((nE.flatMap (cA aa pq.1))).length<=8008:=by
    have:∀l:z0t,(l.flatMap (cA aa pq.1)).length<=l.length * 8:=λl=>by
     induction l with
     | nil=>simp
     | cons a r ih=>rw [pO,a8,dI];have:=ju aa pq.1 a;omega
    have:=this nE;omega
   have cn:=ct.new (new:=nE.flatMap (cA aa pq.1)) (QA:=Qz) Ex (λy hy=>?_) (λy r=>?_) (λy r=>?_) Y1 uL.dep
   .refine⟨_,?_,jl++iX,lH++[z],z6++nE.flatMap (cA aa pq.1),Qz,_,_,_,rfl,⟨sA,⟨_,Pj,Io⟩,⟨_,ZY,hb9⟩,JL,GQ⟩,cn,rfl,?_,?_⟩
    .rw [a8,a8];simp only [fO];omega
    .rw [a8,a8];simp only [fO];omega
    rw [a8];simp only [fO];omega
   .obtain⟨w,hw,h2⟩:=jh.mp hy;obtain⟨e,l⟩:=(pj uk).mp h2;rcases (qp w).mp hw with ⟨h3,h4⟩ | ⟨_,h4⟩
    .exact .inl ⟨l,by rw [e],by rw [e];exact h3,h4⟩
    exact .inr ⟨l,by rw [e],by rw [e];exact h4⟩
   .exact jh.mpr ⟨y.2.2,(qp _).mpr (.inl ⟨r.2.2.1,r.2.2.2⟩),(pj uk).mpr ⟨gN r.2.1 rfl,r.1⟩⟩
   cases hv:(aZ kb (e_ z.1 z.2.1)).isSome with
   | true=>exact .inl (Y0 hv)
   | false=>exact .inr (jh.mpr ⟨y.2.2,(qp _).mpr (.inr ⟨hv,r.2.2⟩),(pj uk).mpr ⟨gN r.2.1 rfl,r.1⟩⟩)
 have BE:us=[]:=by
  cases us with
  | nil=>rfl
  | cons a l=>exact absurd rfl c
 have K9:ws=[]:=by
  have:=cs.pw;rw [BE] at this;cases this;rfl
 subst BE K9;obtain⟨kf,eF,C5⟩:=cs.eF;refine⟨_,rfl,Fa,kf,lH.map pZ,rfl,eF,by rw [C5,fc];rfl,?_,λL rR ug fL pr pm Q_=>?_⟩
 .rw [au];exact qO lH ct.nd λy hy=>ct.snd y (.inl hy)
 obtain⟨h2,o6,Ry⟩:=pT pr pm;have sL:=af fL (.lst (rR.map V.ref));refine q L rR (ug.map pN) _ (none_of (s1.trans cs.sm) fL) ((s1.trans cs.sm).trans sL) ae (Paired.b_ o6 λ_ _ y=>sL _ _ y) (by rw [<-h2];exact Q_) (Ry.nodup_iff.mpr ct.nd) λy=>?_;rw [Ry.mem_iff,ct.done];rfl
end
abbrev xg:Stmt:=top 55
abbrev AX:Stmt:=top 56
abbrev sj:Stmt:=top 57
abbrev AO:Stmt:=top 58
def ux (bq:z0i)(z:Str):z0t:=(bq.filter λq=>decide (q.1=z)).map (·.2)
def yV {bq:z0i}{z w:Str}:w∈ux bq z↔(z,w)∈bq:=by
 unfold ux;rw [bY];constructor
 .rintro⟨q2,Sv,rfl⟩;obtain⟨a1,a2⟩:=gF.mp Sv;rw [<-cW a2];exact a1
 exact λhx=>⟨(z,w),gF.mpr ⟨hx,cE rfl⟩,rfl⟩
def Fi (aa:83)(bq:z0i)(z:Str):z0t:=if z∈hm aa then ux bq z else [z]
def Ga (bq:z0i)(z:Str):(ux bq z).length<=bq.length:=by
 unfold ux;rw [au];exact jk _ _
section
def nI (K:bp):Sp:=λvs H Q _=>∃(R:Addr) (n:Nat)(rs:z0q)(aa:83),vs=[.ref R,.int (n:Int)]/\aI K H R 146/\bK K H rs aa/\aa≠[]/\n<=aa.length/\∀(p:Addr)(H':Hp),aD H H'->aY K H' p ((dP aa n).map V.str)->Q (.ref p) H'
def Gf:aK ["_law_rules","_law_number"] ["_law_rules","_law_number"] (ay xg):=152
def Ea (F:ir K "_law_parts" "_law_parts" xg f fd)(T:Txt mg):bR P w K mg base fK 1 f fd ["_law_rules","_law_number"] (nI K):=by
 refine F.ok Gf 157 161
 .obtain⟨R,n,rs,aa,rfl,_⟩:=h;rfl
 obtain⟨R,n,rs,aa,rfl,hR,cI,jU,hn,q⟩:=h;refine⟨_,ai (cq (a_ kR (pv 1) (aP aU rfl T.len ff (ab (pv 0) ak)) (cx _)) (ao (br (bW (ab (ba bE (ba cU (pv 0) av 137) av 137) ak)))) a7)
  (ao (br (ba bE (ba cU (pv 0) (pv 1) 137) av 137))),?_⟩
 nofun
 have ll:=bc cI;have l0:0 < aa.length:=List.length_pos_iff.mpr jU;refine⟨_,rfl,_,rfl,R,_,rfl,.inl hR,rfl,_,rfl,?_⟩;rw [au,ll];refine 184
 .have e:V.int (n:Int)=V.int (aa.length:Int):=cW c;injection e with e;have en:n=aa.length:=by omega
  obtain⟨r,er,p,v1,v2⟩:=Paired.at_ cI 0 _ (df l0);have uJ:pK 146 ((0:Nat):Int)=some (.ref r):=cK (by rw [a0,er];rfl);refine⟨_,rfl,R,_,_,_,rfl,rfl,hR,uJ,r,_,_,_,rfl,rfl,v1,rfl,Fg,λp hp=>?_⟩;refine q p _ (af hp _) ?_;unfold dP;rw [ke ∅,df l0];exact aY.of ae
 have lt:n < aa.length:=by
  apply Nat.lt_of_le_of_ne hn;intro y;exact c (by rw [y];exact cE rfl)
 obtain⟨r,er,p,v1,v2⟩:=Paired.at_ cI n _ (df lt);have uJ:pK 146 ((n:Nat):Int)=some (.ref r):=cK (by rw [a0,er];rfl);refine⟨_,rfl,_,rfl,R,_,_,_,rfl,rfl,hR,uJ,r,_,_,_,rfl,rfl,v1,rfl,q p H (aD.refl H) ?_⟩;unfold dP;rw [df lt];exact v2
def CI (K:bp):Sp:=λvs H Q _=>∃(R L De p:Addr)(rs us:z0q)(aa:83)(bq:z0i) (ns zs:z0t)(ah:Str),vs=[.ref R,.ref L,.ref De,.ref p,.str ah]/\aI K H R 146/\bK K H rs aa/\aa.length<=1000/\aI K H L (us.map V.ref)/\Paired (Jn K H) us bq/\bq.length<=63/\aI K H De (ns.map V.str)/\aY K H p (148)/\zs.length<=8 /\
 ∀(l:Addr) (out:z0t)(H':Hp),H l=none->aD H H'->H' l=some (.lst (out.map V.str))->out.length<=1000->(∀w,w∈out↔(∃j z,zs[j]?=some z/\(∀x∈zs.take j,x∈ns)/\w∈Fi aa bq z)\/(w=ah/\∀x∈zs,x∈ns))->Q (.ref l) H'
def nQ:aK ["_law_rules","_law_pairs","_law_empty","_law_parts_here","_law_ahead_here","_law_heads","_law_found","_law_part"] ["_law_rules","_law_pairs","_law_empty","_law_parts_here","_law_ahead_here"] (ay AX):=152
def zG {H:Hp}{R D:Addr}{rs:z0q}{aa:83}{σ:St}{Qp:Hp->Prop}(hR:aI K H R 146)(cI:bK K H rs aa)(bN:aa.length<=1000)(hD:H D=none)
  (q:∀H2,aD H H2->H2 D=some (.lst ((hm aa).map V.str))->Qp H2) :
  ∃W:183,(∃m,W 0 m [] (dO ["_law_head","_law_some"] [] σ) 179) /\
 ∀i m ys σ' H,W i m ys σ' H->((jG K R).stop i H/\Qp H)\/((jG K R).go i H/\∃m',m' < m/\∀x H',(jG K R).lS i H x H'->zq K 2 (iT (dD 0) (iT (dD 1) BN)) x σ' H' λσ2 H2=>hV σ2 H2 λb H3 =>
  if b=true then gK 0 σ2 H3 182 else W (i+1) m' ys σ2 H3):=iU (σ:=σ) hR cI bN hD q
def Hz (F:ir K "_law_ahead" "_law_ahead" AX f fd)(T:Txt mg):bR P w K mg base fK 1 f fd ["_law_rules","_law_pairs","_law_empty","_law_parts_here","_law_ahead_here"] (CI K):=by
 refine F.ok nQ 157 161
 .obtain⟨R,L,De,p,rs,us,aa,bq,ns,zs,ah,rfl,_⟩:=h;rfl
 obtain⟨R,L,De,p,rs,us,aa,bq,ns,zs,ah,rfl,hR,cI,bN,hL,BE,Sx,hE,hp,JD,q⟩:=h;refine⟨_,ai (gT (iy:=5) ["_law_head","_law_some"] [] nQ.nd rfl rfl rfl (aR (pv 0)) (aS rfl rfl) nofun rfl nofun
   (λ_ _ _ _ _=>dF (n:=2) K rfl (aB (aq (i:=0) (show (["_law_head","_law_some"]:z0t).Nodup by decide +kernel) rfl 84) (aB (aq (i:=1) (show (["_law_head","_law_some"]:z0t).Nodup by decide +kernel) rfl 84) bH))) 177 (λ_ _ _ _ _=>pv 0))
  (ai (az (i:=6) nQ.nd rfl 84 (bM ak))
  (ai (bJ bV rfl (eV (pv 3)) (aq (i:=7) nQ.nd rfl (Or.inr rfl))
   (ai (ie (cq (a_ jt (pv 7) (pv 5) rfl) (ao (az (i:=6) nQ.nd rfl 84 (aQ jb (pv 6)
    (aV ["_law_name","_law_word"] [(7,"_law_part")] rfl (aR (pv 1)) (aS rfl rfl) nofun rfl nofun
     (λ_ _ _ _ _=>dF (n:=2) K rfl (aB (aq (i:=0) (show (["_law_name","_law_word","_law_part"]:z0t).Nodup by decide +kernel) rfl 84) (aB (aq (i:=1) (show (["_law_name","_law_word","_law_part"]:z0t).Nodup by decide +kernel) rfl 84) bH)))
     (λ_ _ _ _ _=>gb (a_ kR (pv 0) (pv 2) (cx _))) (λ_ _ _ _ _=>pv 1)))))
    (ao (cT (gX gw ix iz cv (pv 6) (ab (pv 7) ak))))))
   (ao (cq (a_ iA (pv 7) (pv 2) rfl) (ao (br (pv 6))) a7))))
  (ao (br (aQ jb (pv 6) (bM (ab (pv 4) ak))))))),?_⟩
 nofun
 have RS:=bc BE;refine⟨_,rfl,R,rfl,⟨_,hR⟩,λDh Y8=>zG hR cI ∅ Y8 λH1 s1 VT=>?_⟩;refine goN ?_
 ac_rfl
 refine⟨uo,λF0 Vx=>?_⟩;have k3:=af Vx 132;have e3:upd H1 F0 132 F0=some 132:=ae;have fF0:H F0=none:=s1.free Vx;have nDF:Dh≠F0:=λz=>by rw [<-z,VT] at Vx;cases Vx
 generalize upd H1 F0 132=H3 at k3 e3;have s3:=s1.trans k3;have uF:=k3 _ _ VT;refine⟨_,rfl,p,rfl,⟨_,s3.tup hp⟩,?_⟩;refine xN (xs:=148) (λi σ H6=>∃(Fd:Addr) (fs:z0t)(y7:Option V),σ=[aE R,aE L,aE De,aE p,some (.str ah),aE Dh,aE Fd,y7]/\aD H H6/\H6 Dh=some (.lst ((hm aa).map V.str))/\H6 Fd=some (.lst (fs.map V.str))/\H Fd=none/\Dh≠Fd/\fs.length<=64 * i/\(∀x∈zs.take i,x∈ns)/\∀w,w∈fs↔∃j z,zs[j]?=some z/\j < i/\w∈Fi aa bq z)
  ⟨F0,[],none,rfl,s3,uF,e3,fF0,nDF,gp _,λ_ h=>(by simp at h),λw=>⟨λh=>(by cases h),λ⟨j,z,_,h,_⟩=>absurd h (mx _)⟩⟩ ?_ ?_ ?_
 .rintro i σ H6 _ ⟨Fd,fs,y7,rfl,s6,_⟩;exact s6.tup hp
 .intro i x σ H6 ex mU
  ac_nf0
  obtain⟨Fd,fs,y7,rfl,s6,eD,eF,fF,nD,lf,EH,qp⟩:=mU;rw [a0] at ex;obtain⟨z,ez,rfl⟩:=b0.mp ex;have li:=(bw.mp ez).1;have lw:=Ga bq z;refine goN ?_
  ac_rfl
  have RN:∀gs:z0t,(∀w,w∈gs↔w∈fs\/w∈Fi aa bq z)->∀w,w∈gs↔∃j z,zs[j]?=some z/\j < i+1/\w∈Fi aa bq z:=λgs h w=>by
   rw [h,qp];constructor
   .rintro(⟨j,z2,h1,h2,h3⟩ | h)
    .exact⟨j,z2,h1,∅,h3⟩
    exact⟨i,z,ez,lQ _,h⟩
   rintro⟨j,z2,h1,h2,h3⟩;by_cases c:j < i
   .exact .inl ⟨j,z2,h1,c,h3⟩
   have:j=i:=by omega
   subst this;rw [ez] at h1;cases h1;exact .inr h3
  refine⟨λσ H8=>∃(Fd:Addr) (gs:z0t),σ=[aE R,aE L,aE De,aE p,some (.str ah),aE Dh,aE Fd,some (.str z)]/\aD H H8/\H8 Dh=some (.lst ((hm aa).map V.str))/\H8 Fd=some (.lst (gs.map V.str))/\H Fd=none/\Dh≠Fd/\gs.length<=64 * (i+1)/\∀w,w∈gs↔w∈fs\/w∈Fi aa bq z,?_,?_⟩
  .refine⟨_,rfl,_,rfl,Dh,_,rfl,.inl (aI.of eD),rfl,bZ _,_,rfl,?_⟩;rw [ar cQ,dG];refine cf (λcc=>?_) (λcc=>?_)
   .have hzh:z∈hm aa:=cW cc;have sA:=s6;have Yj:Paired (Jn K H6) us bq:=Paired.b_ BE λ_ _ y=>sA.tup y;refine⟨_,rfl,_,rfl,L,rfl,⟨_,sA.seq hL⟩,λDB hDB=>bT (xs:=us.map V.ref) (λm ys σ2 HC=>ys=(((bq.take m).filter λq=>decide (q.1=z)).map λq=>V.str q.2)/\(∃y0 y1,σ2=[y0,y1,some (.str z)])/\aD H6 HC/\HC DB=some (.lst ys)) ⟨rfl,⟨none,none,rfl⟩,af hDB _,ae⟩ (λm ys σ2 HC _ h=>?_) (λm x ys σ2 HC ex h=>?_) (λys σ2 HC h=>?_)⟩
    .obtain⟨_,_,sm,_⟩:=h;exact sm.seq (sA.seq hL)
    .obtain⟨rfl,⟨y0,y1,rfl⟩,sm,eB⟩:=h;rw [a0] at ex;obtain⟨u,eu,rfl⟩:=b0.mp ex;have lm:=(bw.mp eu).1;obtain⟨qq,Tw⟩:∃qq,bq[m]?=some qq:=⟨_,df ∅⟩;obtain⟨u',Tr,vu⟩:=Paired.at_ Yj m qq Tw;rw [eu] at Tr;cases Tr;have QO:=kJ (λq:Str×Str=>decide (q.1=z)) Tw;have lfq:((bq.take m).filter λq=>decide (q.1=z)).length<=64:=gr (jk _ _) (by rw [dJ];omega);refine⟨u,_,rfl,sm.tup vu,rfl,_,_,rfl,_,_,rfl,rfl,?_⟩;refine⟨_,rfl,_,rfl,rfl,_,rfl,?_⟩;have dv:decide (V.str qq.1=V.str z)=decide (qq.1=z):=by
      by_cases c:qq.1=z
      .rw [c,cE rfl,cE rfl]
      rw [fg c,fg (λy=>c (by injection y))]
     rw [dv];refine cf (λc3=>?_) (λc3=>?_)
     .refine⟨_,rfl,eB,176,?_,⟨_,_,rfl⟩,λb o hb=>?_,ae⟩
      .rw [QO,aw c3,bj];rfl
      rw [aj (λy=>by rw [y,hDB] at hb;cases hb)];exact sm b o hb
     exact⟨by rw [QO,ar c3,d_],⟨_,_,rfl⟩,sm,eB⟩
    obtain⟨rfl,_,sm,eB⟩:=h;rw [au,RS,cw] at eB;have Z1:HC DB=some (.lst ((ux bq z).map V.str)):=by rw [eB];unfold ux;rw [fc];rfl
    refine⟨Fd,DB,fs.map V.str,(ux bq z).map V.str,rfl,rfl,sm _ _ eF,Z1,fits (by rw [au,au];omega),λFn OT=>?_⟩;have sC:=s6.trans sm;have kN:=af OT (.lst (fs.map V.str++(ux bq z).map V.str));have eDC:=sm _ _ eD;refine⟨Fn,fs++ux bq z,rfl,sC.trans kN,kN _ _ eDC,by rw [ae,bj],sC.free OT,(λy=>by rw [<-y,eDC] at OT;cases OT),by rw [a8];omega,λw=>?_⟩;rw [bO];unfold Fi;rw [aw hzh]
   have nz:z∉hm aa:=λy=>cc (cE y);refine⟨_,rfl,.inl ⟨rfl,_,aI.of eF⟩,_,rfl,Fd,_,_,rfl,rfl,eF,176,?_⟩;refine⟨Fd,fs++[z],rfl,gG s6 fF,by rw [aj nD];exact eD,by rw [ae,bj];rfl,fF,nD,by rw [a8,fO];omega,λw=>?_⟩;rw [bO];unfold Fi;rw [ar nz]
  rintro σ H8 ⟨F8,gs,rfl,s8,VR,eF8,fF8,nD8,lg,hg⟩;refine⟨_,rfl,_,rfl,De,_,rfl,.inl (s8.seq hE),rfl,bZ _,_,rfl,?_⟩;rw [aw rfl,dG];refine cf (λcc=>?_) (λcc=>?_)
  .have nze:z∉ns:=by simpa using cc
   refine⟨_,rfl,q F8 gs H8 fF8 s8 eF8 ∅ λw=>?_⟩;rw [RN gs hg];constructor
   .rintro⟨j,z2,h1,h2,h3⟩;exact .inl ⟨j,z2,h1,λx hx=>EH x (by
     have:zs.take j=(zs.take i).take j:=by rw [List.take_take,Nat.min_eq_left ∅]
     rw [this] at hx;exact uN hx),h3⟩
   rintro(⟨j,z2,h1,h2,h3⟩ | ⟨_,h2⟩)
   .refine⟨j,z2,h1,?_,h3⟩;apply Nat.lt_of_not_le;intro hle;refine nze (h2 z (cC (i:=i) ?_));rw [yj ∅];exact ez
   exact absurd (h2 z (cC ez)) nze
  have hze:z∈ns:=Classical.byContradiction λy=>cc (by rw [fg y];rfl);refine⟨F8,gs,_,rfl,s8,VR,eF8,fF8,nD8,lg,λx hx=>?_,RN gs hg⟩;rw [cO,ez] at hx;rcases bO.mp hx with h | h
  .exact EH x h
  rw [bA.mp h];exact hze
 rintro σ H6 ⟨Fd,fs,y7,rfl,s6,eD,eF,fF,nD,lf,EH,qp⟩;rw [au] at lf EH qp;rw [cw] at EH;refine⟨_,rfl,_,rfl,Fg,λLa hLa=>?_⟩;have kA:=af hLa (.lst [V.str ah]);have eA:upd H6 La (.lst [V.str ah]) La=some (.lst [V.str ah]):=ae;generalize upd H6 La (.lst [V.str ah])=HA at kA eA;refine⟨Fd,La,fs.map V.str,[V.str ah],rfl,rfl,kA _ _ eF,eA,fits (by rw [au];show fs.length+1<=_;omega),λFn OT=>?_⟩;have kN:=af OT (.lst (fs.map V.str++[V.str ah]));have MX:upd HA Fn (.lst (fs.map V.str++[V.str ah])) Fn=some (.lst ((fs++[ah]).map V.str)):=by rw [ae,bj];rfl
 refine q Fn (fs++[ah]) _ ((s6.trans kA).free OT) ((s6.trans kA).trans kN) MX (by rw [a8,fO];omega) λw=>?_;rw [bO,qp,bA];constructor
 .rintro(⟨j,z,h1,h2,h3⟩ | h)
  .exact .inl ⟨j,z,h1,λx hx=>EH x (uN hx),h3⟩
  exact .inr ⟨h,EH⟩
 rintro(⟨j,z,h1,_,h3⟩ | ⟨h,_⟩)
 .exact .inl ⟨j,z,h1,(bw.mp h1).1,h3⟩
 exact .inr h
end
end g9
namespace L2
open PySem
def F7 {X:Cx}(K:bp)(hK:X.K=K:=by rfl):Ul X (Mj K):=by
 subst hK;exact iY
end L2
namespace g9
open PySem L2 M11 ST
section
def LF (zs:z0t) (d:Nat):g8 (148) (some (d:Int)) (some ((d:Int)+1))=(zs[d]?).toList.map V.str:=by
 unfold g8;rw [show ((d:Int)+1)=((d+1:Nat):Int) by omega,HT.lF,HT.lF,au];by_cases c:d < zs.length
 .rw [Nat.min_eq_left ∅,Nat.min_eq_left ∅,Nat.add_sub_cancel_left,<-List.map_drop,<-mq,List.drop_eq_getElem_cons c,df c];rfl
 rw [Nat.min_eq_right (show zs.length<=d by omega),Ah (by rw [au];exact aG _),ke ∅,List.take_nil];rfl
def OO (aa:83) (k:Nat):Str:=match aa[k]? with | some ru=>ru.1 | none => ""
def yP (aa:83)(o:Option Str) (i:Nat):List Nat:=(List.range i).filter λk=>decide (OO aa k∈o.toList)
def Ei (aa:83)(nm:Str):yP aa (some nm) aa.length=(List.range aa.length).filter (y_ aa nm):=by
 refine List.filter_congr λk hk=>?_;have l:=j4.mp hk;unfold y_ OO;rw [df l];by_cases c:aa[k].1=nm
 .rw [cE (by simp [c]),cE (by simp [c])]
 rw [fg (by simp [c]),fg (by simp [c])]
def Ej (aa:83) (i:Nat):yP aa none i=[]:=by
 unfold yP;rw [List.filter_eq_nil_iff];intro k _;simp
def Eh (aa:83)(o:Option Str) (i:Nat):yP aa o (i+1)=yP aa o i++if decide (OO aa i∈o.toList)=true then [i] else []:=by
 unfold yP;rw [List.range_succ,pQ]
 congr 1
 by_cases h:decide (OO aa i∈o.toList)=true
 .rw [aw h,oQ,aw h];rfl
 rw [ar h,oQ,ar h];rfl
def HG (aa:83)(o:Option Str) (i:Nat):(yP aa o i).length<=i:=by
 have:=jk (λk=>decide (OO aa k∈o.toList)) (List.range i);rw [qT] at this;exact this
def AhL (aa:83)(bq:z0i) (ns zs:z0t)(ah w:Str):Prop:=(∃j z,zs[j]?=some z/\(∀x∈zs.take j,x∈ns)/\w∈Fi aa bq z)\/(w=ah/\∀x∈zs,x∈ns)
def mZ (aa:83)(bq:z0i) (ns:z0t)(z y:Pl):Prop:=Ld aa z y.1/\y.2.1=0/\AhL aa bq ns (JT aa z) z.2.2 y.2.2
def Xp (_ _:Pl):Prop:=False
def u4 (K:bp):Sp:=λvs H Q _=>∃(R L De p:Addr)(rs us ts:z0q)(ps:List Pl)(aa:83)(bq:z0i) (ns:z0t),vs=[.ref R,.ref L,.ref De,.ref p]/\aI K H R 146/\bK K H rs aa/\aa≠[]/\aa.length<=8/\198/\aI K H L (us.map V.ref)/\Paired (Jn K H) us bq/\bq.length<=63/\aI K H De (ns.map V.str)/\aI K H p (ts.map V.ref)/\Paired (j8 H) ts ps/\ps.length<=100/\(∀z∈ps,z.1<=aa.length)/\(∀l:List Pl,l.Nodup->(∀z∈l,mi (mZ aa bq ns) ps z)->l.length < 64) /\
 ∀(l:Addr)(us:z0q)(zs:List Pl)(H':Hp),H l=none->aD H H'->H' l=some (.lst (us.map V.ref))->Paired (j8 H') us zs->LR KY (zs.map pZ)->zs.Nodup->(∀z,z∈zs↔mi (mZ aa bq ns) ps z)->Q (.ref l) H'
def hZ:aK ["_law_rules","_law_pairs","_law_empty","_law_places","_law_kept","_law_todo","_law_place_here","_law_parts_here","_law_numbers","_law_word"] ["_law_rules","_law_pairs","_law_empty","_law_places"] (ay sj):=152
def Bh (F:ir K "_law_closed" "_law_closed" sj f fd)(T:Txt mg)(jJ:mg "sorted"=none)(GP:aF P w K mg base 1 "_law_parts" ["_law_rules","_law_number"] (nI K))(GA:aF P w K mg base 1 "_law_ahead" ["_law_rules","_law_pairs","_law_empty","_law_parts_here","_law_ahead_here"] (CI K)):bR P w K mg base fK 2 f fd ["_law_rules","_law_pairs","_law_empty","_law_places"] (u4 K):=by
 refine F.ok hZ 157 161
 .obtain⟨R,L,De,p,rs,us,ts,ps,aa,bq,ns,rfl,_,__1⟩:=h;rfl
 obtain⟨R,L,De,p,rs,us,ts,ps,aa,bq,ns,rfl,hR,cI,jU,r8,h8,hL,BE,Sx,hE,hp,JE,XR,Yx,qO,q⟩:=h;have hu:=fY hr;have hu0:=Nat.lt_of_succ_lt hu;refine⟨_,ai (az (i:=4) hZ.nd rfl 84 sG)
  (ai (az (i:=5) hZ.nd rfl 84 (bL gi rfl T.lst gy (ab (pv 3) ak)))
  (ai (ip bV (a_ (vd hu0) (pv 5) (bM ak) (cx _))
   (ai (az (i:=6) hZ.nd rfl (Or.inr rfl) (G9 gw PySem.F.slot_list_pop PySem.F.type_list_pop HV (pv 5)))
   (ao (cq (fw (dC hu (pv 6) (pv 4)))
    (ai (fC hu (pv 4) (pv 6) fq rfl)
    (ai (az (i:=7) hZ.nd rfl (Or.inr rfl) (bu GP hr rfl (ab (pv 0) (ab (ba bE (pv 6) av 137) ak))))
    (ai (gT (iy:=8) ["_law_number"] [(0,"_law_rules"),(7,"_law_parts_here"),(6,"_law_place_here")] hZ.nd rfl rfl rfl (ib rfl T.Fl (ab (aP aU rfl T.len ff (ab (pv 0) ak)) ak)) (aS rfl rfl) nofun rfl nofun
     (λ_ _ _ _ _=>aq (i:=0) (show (["_law_number","_law_rules","_law_parts_here","_law_place_here"]:z0t).Nodup by decide +kernel) rfl 84)
     (λ_ _ _ _ _=>gb (a_ (dQ K) (ba (qL K) (ba (yZ K) (pv 1) (pv 0) 137) av 137) (dW (F7 K) (pv 2) (eU (ba (qL K) (pv 3) av 137)) (eU (aQ dw (ba (qL K) (pv 3) av 137) av))) rfl))
     (λ_ _ _ _ _=>pv 0))
    (ao (cq (a_ (vd hu0) (pv 8) (bM ak) (cx _))
     (ao (bJ bV rfl (aR (bu GA hr rfl (ab (pv 0) (ab (pv 1) (ab (pv 2) (ab (dW iY (pv 7) (eU (aQ dw (ba bE (pv 6) av 137) av)) gW) (ab (ba bE (pv 6) av 137) ak))))))) (aq (i:=9) hZ.nd rfl (Or.inr rfl))
      (ao (cT (gX gw yk Ar vf (pv 5) (ab
       (aV ["_law_number"] [(9,"_law_word")] rfl (aR (pv 8)) (aS rfl rfl) nofun rfl nofun
        (λ_ _ _ _ _=>aq (i:=0) (show (["_law_number","_law_word"]:z0t).Nodup by decide +kernel) rfl 84) 177
        (λ_ _ _ _ _=>bW (ab (pv 0) (ab av (ab (pv 1) ak))))) ak))))))
     a7)))))
    a7))))
  (ao (br (aP (qf rfl) rfl jJ PyProof.Rows.boot_sorted (ab (pv 4) ak)))))),?_⟩
 nofun
 intro Fa Te;have k2:=af Te (.dT []);have MY:upd H Fa (.dT []) Fa=some (.dT []):=ae;generalize upd H Fa (.dT [])=H2 at k2 MY;refine⟨_,rfl,p,_,rfl,.inl (k2.seq hp),λWa IB=>?_⟩;have k4:=af IB 163;have TH:upd H2 Wa 163 Wa=some 163:=ae;have Oh:Fa≠Wa:=λy=>by rw [<-y,MY] at IB;cases IB
 generalize upd H2 Wa 163=H4 at k4 TH;have fF:H Fa=none:=Te;have fW:H Wa=none:=none_of k2 IB;have qE:aD H H4:=k2.trans k4;refine⟨λm σ H5=>∃(Fj:z0q)(fs ws:List Pl)(y6 y7 y8 y9:Option V),σ=[aE R,aE L,aE De,aE p,aE Fa,aE Wa,y6,y7,y8,y9]/\aD H H5/\(∃kf,H5 Fa=some (.dT kf)/\kf.map 82=fs.map j9)/\H5 Wa=some (.lst (Fj.map V.ref))/\Paired (j8 H5) Fj ws/\(∀z∈ws,z.1<=aa.length)/\Af (mZ aa bq ns) Xp ps fs ws []/\m=(64 - fs.length) * 10000+ws.length/\ws.length<=100+fs.length * 8008,
  ⟨_,ts,[],ps,none,none,none,none,rfl,qE,⟨_,k4 _ _ MY,rfl⟩,TH,Paired.b_ JE λ_ _ z=>qE _ _ z,Yx,Af.init _ _ _,rfl,∅⟩,?_⟩
 rintro m σ H50 ⟨Fj,lH,ws,y6,y7,y8,y9,rfl,WL,⟨kf,eF0,C5⟩,eW0,pw0,w1,ct,em,lw⟩;have T4:∀z,mi (λa b=>mZ aa bq ns a b\/Xp a b) ps z->mi (mZ aa bq ns) ps z:=λz c=>c.mono (λa b h=>h.elim id λh=>h.elim) λz hz=>.base hz;refine⟨_,rfl,uo,λN hN=>?_⟩;have k5:=af hN 132;have eN:upd H50 N 132 N=some 132:=ae;generalize upd H50 N 132=H5 at k5 eN;have WM:=WL.trans k5;have eF:=k5 _ _ eF0;have eW1:=k5 _ _ eW0;have pw:Paired (j8 H5) Fj ws:=Paired.b_ pw0 λ_ _ y=>k5 _ _ y;refine⟨Wa,N,_,rfl,rfl,aI.of eW1,aI.of eN,_,rfl,?_⟩;refine 184
 .obtain⟨jl,u,z6,z,rfl,rfl,W_,hz⟩:=pU pw (λy=>by rw [y] at c;cases c);refine⟨_,λ_ _ h=>h,?_⟩;have eW:H5 Wa=some (.lst (jl.map V.ref++[V.ref u])):=by have:=eW1;rw [bj] at this;exact this
  rw [a8] at em lw;simp only [fO] at em lw;have zl:z.1<=aa.length:=w1 z (dM _ (bA.mpr rfl));have Ws:∀z∈z6,z.1<=aa.length:=λy hy=>w1 y (eI _ hy);have lkf:kf.length=lH.length:=by have:=congrArg List.length C5;rw [au,au] at this;exact this
  have lfs:lH.length < 64:=qO lH ct.nd λy hy=>T4 _ (ct.snd y (.inl hy));refine⟨_,rfl,.inl ⟨rfl,_,aI.of eW⟩,Wa,_,.ref u,rfl,rfl,eW,yI,?_⟩;rw [List.dropLast_concat];have Nv:aD H (upd H5 Wa (.lst (jl.map V.ref))):=gG WM fW;have ES:upd H5 Wa (.lst (jl.map V.ref)) Fa=some (.dT kf):=by rw [aj Oh];exact eF
  have Pf:upd H5 Wa (.lst (jl.map V.ref)) Wa=some (.lst (jl.map V.ref)):=ae;have NZ:Paired (j8 (upd H5 Wa (.lst (jl.map V.ref)))) jl z6:=Paired.b_ W_ λ_ _ y=>dq eW (λ_ x=>by cases x) y;have JD:j8 (upd H5 Wa (.lst (jl.map V.ref))) u z:=dq eW (λ_ x=>by cases x) hz;generalize upd H5 Wa (.lst (jl.map V.ref))=H6 at Nv ES Pf NZ JD;refine⟨_,rfl,_,rfl,Fa,_,rfl,cg.t (k:=j9 z) ES JD,_,rfl,?_⟩;by_cases Ex:z∈lH
  .rw [(kx kf (j9 z) C5).1 (qK.mpr Ex)];refine iS ?_;exact⟨_,∅,jl,lH,z6,_,_,_,_,rfl,Nv,⟨kf,ES,C5⟩,Pf,NZ,Ws,ct.old Ex,rfl,∅⟩
  have vn:=(kx kf (j9 z) C5).2 λy=>Ex (qK.mp y);rw [vn];refine By ?_;refine⟨_,rfl,_,rfl,Fa,_,rfl,jX.t (k:=j9 z) ES JD (bB ∅),?_⟩;rw [kO _ vn];have F6:aD H (upd H6 Fa (.dT (kf++[(j9 z,V.bl true)]))):=gG Nv fF;have Pk:upd H6 Fa (.dT (kf++[(j9 z,V.bl true)])) Fa=some (.dT (kf++[(j9 z,V.bl true)])):=ae;have JM:upd H6 Fa (.dT (kf++[(j9 z,V.bl true)])) Wa=some (.lst (jl.map V.ref)):=by rw [aj (d8 Oh)];exact Pf
  have NY:Paired (j8 (upd H6 Fa (.dT (kf++[(j9 z,V.bl true)])))) jl z6:=Paired.b_ NZ λ_ _ y=>dq ES (λ_ x=>by cases x) y;have ME:j8 (upd H6 Fa (.dT (kf++[(j9 z,V.bl true)]))) u z:=dq ES (λ_ x=>by cases x) JD;generalize upd H6 Fa (.dT (kf++[(j9 z,V.bl true)]))=H7 at F6 Pk JM NY ME;have Io:(kf++[(j9 z,V.bl true)]).map 82=(lH++[z]).map j9:=by rw [bj,bj,C5];rfl
  have XU:lH.length+1 < 64:=by
   have:=qO (lH++[z]) (iI.mpr ⟨ct.nd,g_.mpr ⟨85,gE⟩,λa ha b hb e=>Ex (by rw [<-bA.mp hb,<-e];exact ha)⟩) λy hy=>by
    rcases bO.mp hy with hy | hy
    .exact T4 _ (ct.snd y (.inl hy))
    exact T4 _ (ct.snd y (.inr (dM _ hy)))
   rw [a8] at this;exact this
  refine⟨_,rfl,_,rfl,u,_,_,_,rfl,rfl,aY.of ME,rfl,R,z.1,rs,aa,rfl,F6.seq hR,cI.same F6,jU,zl,λpp H8 s8 ep=>?_⟩;have Kf:=F6.trans s8;have Qa:aY K H8 u (A8 (pZ z)):=aY.of (s8 _ _ ME);have ll:=bc cI;have stop:∀(H9:Hp)(y7 y8 y9:Option V),aD H8 H9->(∀i,¬Ld aa z i)->∃m',m' < m/\∃(Fj:z0q)(fs ws:List Pl)(y6 Wl Wk Wj:Option V),[some (V.ref R),aE L,aE De,aE p,aE Fa,aE Wa,aE u,y7,y8,y9]=[some (V.ref R),aE L,aE De,aE p,aE Fa,aE Wa,y6,Wl,Wk,Wj]/\aD H H9/\(∃kf,H9 Fa=some (.dT kf)/\kf.map 82=fs.map j9)/\H9 Wa=some (.lst (Fj.map V.ref))/\Paired (j8 H9) Fj ws/\(∀z∈ws,z.1<=aa.length)/\Af (mZ aa bq ns) Xp ps fs ws []/\m'=(64 - fs.length) * 10000+ws.length/\ws.length<=100+fs.length * 8008:=λH9 y7 y8 y9 s9 no=>by
   have cn:=ct.new (new:=[]) (QA:=[]) Ex (λy hy=>nomatch hy) (λy r=>absurd r.1 (no _)) (λy r=>r.elim) (λq hq=>.inl hq) (λ_ _ _ _ r=>r);rw [d_] at cn;have Rk:=s8.trans s9;exact⟨_,by rw [a8];simp only [fO];omega,jl,lH++[z],z6,_,_,_,_,rfl,Kf.trans s9,⟨_,Rk _ _ Pk,Io⟩,Rk _ _ JM,Paired.b_ NY λ_ _ y=>Rk _ _ y,Ws,cn,rfl,by rw [a8];simp only [fO];omega⟩
  refine⟨_,rfl,R,_,rfl,.inl (Kf.seq hR),(aa.length:Int),(by rw [au,ll]),∅,∅,λD hD=>?_⟩;have tn:((aa.length:Int)).toNat=aa.length:=by omega
  refine qe (lo:=0) (λi ys σ2 H9=>ys=(yP aa ((dP aa z.1)[z.2.1]?) i).map (λk:Nat=>V.int (k:Int))/\(∃y0,σ2=[y0,aE R,aE pp,aE u])/\aD H8 H9/\H9 D=some (.lst ys)) ⟨rfl,⟨none,rfl⟩,af hD _,ae⟩ (λi ys σ2 H9 hi h=>?_) (λys σ2 H9 h=>?_)
  .obtain⟨rfl,⟨y0,rfl⟩,s9,TQ⟩:=h;rw [tn] at hi;have UX:=Kf.trans s9;obtain⟨r,er,pr,v1,v2⟩:=Paired.at_ cI i _ (df hi);have ati:pK 146 (0+(i:Int))=some (.ref r):=by rw [i8];exact cK (by rw [a0,er];rfl)
   have ln:=HG aa ((dP aa z.1)[z.2.1]?) i;refine goN ?_;refine⟨_,rfl,_,rfl,R,_,_,_,rfl,rfl,UX.seq hR,ati,r,_,_,_,rfl,rfl,UX.tup v1,rfl,?_⟩;refine⟨_,rfl,_,rfl,u,_,_,_,rfl,rfl,s9.tup Qa,rfl,_,rfl,_,rfl,u,_,_,_,rfl,rfl,s9.tup Qa,rfl,_,_,rfl,rfl,_,rfl,pp,_,rfl,s9.tup ep,λp2 HA sA eA=>?_⟩;have VU:aY K HA p2 (((dP aa z.1)[z.2.1]?).toList.map V.str):=by
    rw [<-LF];exact eA
   refine⟨p2,_,rfl,.inr VU,rfl,bZ _,_,rfl,?_⟩;rw [ar cQ,dG];have eh:OO aa i=aa[i].1:=by unfold OO;rw [df hi]
   have RF:=Eh aa ((dP aa z.1)[z.2.1]?) i;rw [eh] at RF;have s9A:=s9.trans sA;refine cf (λcc=>?_) (λcc=>?_)
   .rw [aw cc] at RF;refine⟨_,rfl,sA _ _ TQ,176,by rw [RF,bj,i8];rfl,⟨_,rfl⟩,gG s9A hD,ae⟩
   rw [ar cc,d_] at RF;exact⟨by rw [RF],⟨_,rfl⟩,s9A,sA _ _ TQ⟩
  obtain⟨rfl,_,s9,TQ⟩:=h;rw [tn] at TQ;have Rk:=s8.trans s9;have UX:=Kf.trans s9;refine goN ?_
  ac_rfl
  refine⟨_,rfl,uo,λN2 hN2=>?_⟩;have kA:=af hN2 132;have MX:upd H9 N2 132 N2=some 132:=ae;generalize upd H9 N2 132=HA at kA MX;have IT:=kA _ _ TQ;have s1A:=UX.trans kA;have WS:=s9.trans kA;have s7A:=Rk.trans kA;refine⟨D,N2,_,rfl,rfl,aI.of IT,aI.of MX,_,rfl,?_⟩;cases uk:(dP aa z.1)[z.2.1]? with
  | none =>
   rw [uk] at IT;rw [Ej] at IT ⊢;refine iS ?_;exact stop HA _ _ _ WS λi ⟨nm,ru,h1,_,__1⟩=>by rw [uk] at h1;cases h1
  | some nm =>
   rw [uk] at IT;rw [Ei] at IT ⊢;refine cf (λcc=>?_) (λcc=>?_)
   .have Vd:j8 HA u z:=s7A _ _ ME;refine⟨_,rfl,_,rfl,_,rfl,_,rfl,_,rfl,u,_,_,_,rfl,rfl,aY.of Vd,rfl,_,_,rfl,rfl,_,rfl,pp,_,rfl,WS.tup ep,λp2 HB sB eB=>?_⟩;have Z1:aY K HB p2 ((JT aa z).map V.str):=by
     unfold JT;rw [<-vI];exact eB
    have PZ:=s1A.trans sB;have UT:=s7A.trans sB;refine⟨_,rfl,u,_,_,_,rfl,rfl,aY.of (sB _ _ Vd),rfl,R,L,De,p2,rs,us,aa,bq,ns,JT aa z,z.2.2,rfl,PZ.seq hR,cI.same PZ,∅,PZ.seq hL,Paired.b_ BE λ_ _ y=>PZ.tup y,Sx,PZ.seq hE,Z1,?_,λL3 nE zW fL ql eL ltx qp=>?_⟩
    .unfold JT;rw [mz];have:=xt h8 z.1;omega
    have UP:=PZ.trans ql;have ZS:=ql _ _ (UT _ _ Pk);have ZL:=ql _ _ (UT _ _ JM);have ZV:=ql _ _ (sB _ _ IT);have W9:Paired (j8 zW) jl z6:=Paired.b_ NY λ_ _ y=>ql _ _ (UT _ _ y);have XC:L3≠Wa:=λy=>by rw [y,UT _ _ JM] at fL;cases fL
    have nDW:D≠Wa:=λy=>by rw [y,s8 _ _ JM] at hD;cases hD
    refine⟨L3,rfl,⟨_,aI.of eL⟩,?_⟩;refine bP (xs:=nE.map V.str) (λi σ HA=>∃(y9:Option V)(iX:z0q),σ=[aE R,aE L,aE De,aE p,aE Fa,aE Wa,aE u,aE pp,aE D,y9]/\aD H HA/\HA Fa=some (.dT (kf++[(j9 z,V.bl true)]))/\HA D=some (.lst (((List.range aa.length).filter (y_ aa nm)).map λk:Nat=>V.int (k:Int)))/\HA L3=some (.lst (nE.map V.str))/\HA Wa=some (.lst ((jl++iX).map V.ref))/\Paired (j8 HA) (jl++iX) (z6++(nE.take i).flatMap (cA aa nm))) ⟨_,[],rfl,UP,ZS,ZV,eL,by rw [d_];exact ZL,by rw [d_];simpa using W9⟩ ?_ ?_ ?_
    .rintro i σ HA _ ⟨y8,iX,rfl,_,_,_,Ly,_⟩;exact aI.of Ly
    .intro i x σ HA ex mU
     ac_nf0
     obtain⟨y8,iX,rfl,sA,Pj,IT,Ly,JL,GQ⟩:=mU;rw [a0] at ex;obtain⟨w1,ew,rfl⟩:=b0.mp ex;refine goN ?_
     ac_nf
     refine⟨_,rfl,.inl ⟨rfl,_,aI.of JL⟩,_,rfl,D,rfl,⟨_,aI.of IT⟩,λD2 jI=>?_⟩;have lnk:=ju aa nm w1;have XS:((List.range aa.length).filter (y_ aa nm)).length=(cA aa nm w1).length:=by unfold cA;rw [au]
     refine bT (xs:=((List.range aa.length).filter (y_ aa nm)).map λk:Nat=>V.int (k:Int)) (λj ys σ2 H2=>∃vs:z0q,ys=vs.map V.ref/\Paired (j8 H2) vs ((cA aa nm w1).take j)/\(∃y0,σ2=[y0,some (.str w1)])/\aD HA H2/\H2 D2=some (.lst ys)) ⟨[],rfl,.nil,⟨none,rfl⟩,af jI _,ae⟩ ?_ ?_ ?_
     .rintro j ys σ2 H2 _ ⟨vs,_,_,_,jn,_⟩;exact aI.of (jn _ _ IT)
     .rintro j x ys σ2 H2 iH ⟨vs,rfl,DP,⟨y0,rfl⟩,jn,ou⟩;obtain⟨k,ek,en⟩:∃k:Nat,x=V.int (k:Int)/\(cA aa nm w1)[j]?=some (k,0,w1):=by
       rw [a0] at iH;obtain⟨k,hk,e⟩:=b0.mp iH;exact⟨k,e.symm,by unfold cA;rw [a0,hk];rfl⟩
      subst ek;have lv:=bc DP;rw [dJ] at lv;refine goN (vq ?_);refine⟨_,rfl,_,rfl,Jt,λt ht=>?_⟩;have k3:=af ht (.tup [V.int (k:Int),V.int 0,V.str w1]);have et:j8 (upd H2 t (.tup [V.int (k:Int),V.int 0,V.str w1])) t (k,0,w1):=ae;generalize upd H2 t (.tup [V.int (k:Int),V.int 0,V.str w1])=H3 at k3 et;have uF:=k3 _ _ ou;refine⟨uF,176,vs++[t],by rw [bj];rfl,?_,⟨_,rfl⟩,gG (jn.trans k3) jI,ae⟩;rw [cO,en];exact gk (Paired.b_ DP λ_ _ y=>dq uF (λ_ x=>by cases x) (k3 _ _ y)) (dq uF (λ_ x=>by cases x) et)
     rintro ys σ2 H2 ⟨vs,rfl,DP,_,jn,ou⟩;rw [au,XS,cw] at DP;have lv:=bc DP;have XQ:=bc GQ;have Pg:=jn _ _ JL;have lfl:((nE.take i).flatMap (cA aa nm)).length<=8000:=by
      have h:∀l:z0t,(l.flatMap (cA aa nm)).length<=l.length * 8:=λl=>by
       induction l with
       | nil=>simp
       | cons a r ih=>rw [pO,a8,dI];have:=ju aa nm a;omega
      have h2:=h (nE.take i);rw [dJ] at h2;omega
     rw [a8,a8] at XQ;refine⟨Wa,D2,_,_,rfl,rfl,Pg,ou,fits (by rw [au,au,a8];omega),?_⟩;have kW:∀y o,y≠Wa->H2 y=some o->upd H2 Wa (.lst ((jl++iX).map V.ref++vs.map V.ref)) y=some o:=λy o ny hy=>by rw [aj ny];exact hy
     refine⟨_,iX++vs,rfl,λb o hb=>kW b o (λy=>by rw [y,fW] at hb;cases hb) (jn _ _ (sA b o hb)),kW _ _ Oh (jn _ _ Pj),kW _ _ nDW (jn _ _ IT),kW _ _ XC (jn _ _ Ly),by rw [ae,<-bj,iu],?_⟩;rw [<-iu,cO,ew,rB,<-iu];refine Paired.Jc (Paired.b_ GQ λ_ _ y=>dq Pg (λ_ x=>by cases x) (jn _ _ y)) ?_;have:(some w1).toList.flatMap (cA aa nm)=cA aa nm w1:=85
     rw [this];exact Paired.b_ DP λ_ _ y=>dq Pg (λ_ x=>by cases x) y
    rintro σ HA ⟨y8,iX,rfl,sA,Pj,IT,Ly,JL,GQ⟩;rw [au,cw] at GQ;have ln:((nE.flatMap (cA aa nm))).length<=8000:=by
     have:∀l:z0t,(l.flatMap (cA aa nm)).length<=l.length * 8:=λl=>by
      induction l with
      | nil=>simp
      | cons a r ih=>rw [pO,a8,dI];have:=ju aa nm a;omega
     have:=this nE;omega
    have cn:=ct.new (new:=nE.flatMap (cA aa nm)) (QA:=[]) Ex (λy hy=>?_) (λy r=>?_) (λy r=>r.elim) (λq hq=>.inl hq) (λ_ _ _ _ r=>r)
    .refine⟨_,?_,jl++iX,lH++[z],z6++nE.flatMap (cA aa nm),_,_,_,_,rfl,sA,⟨_,Pj,Io⟩,JL,GQ,λy hy=>?_,cn,rfl,?_⟩
     .rw [a8,a8];simp only [fO];omega
     .rcases bO.mp hy with hy | hy
      .exact Ws y hy
      obtain⟨w,hw,h2⟩:=jh.mp hy;obtain⟨e,l⟩:=(pj uk).mp h2;exact lL ((xE uk _).mp l).1
     rw [a8,a8];simp only [fO];omega
    .obtain⟨w,hw,h2⟩:=jh.mp hy;obtain⟨e,l⟩:=(pj uk).mp h2;exact .inl ⟨l,by rw [e],by rw [e];exact(qp w).mp hw⟩
    exact jh.mpr ⟨y.2.2,(qp _).mpr r.2.2,(pj uk).mpr ⟨gN r.2.1 rfl,r.1⟩⟩
   refine stop HA _ _ _ WS λi l=>cc ?_;obtain⟨h1,h2⟩:=(xE uk i).mp l;have:i∈(List.range aa.length).filter (y_ aa nm):=gF.mpr ⟨j4.mpr h1,h2⟩;cases e:(List.range aa.length).filter (y_ aa nm) with
   | nil=>rw [e] at this;cases this
   | cons a r=>rfl
 have BE:Fj=[]:=by
  cases Fj with
  | nil=>rfl
  | cons a l=>exact absurd rfl c
 have K9:ws=[]:=by
  have:=pw;rw [BE] at this;cases this;rfl
 subst BE K9;refine⟨_,rfl,Fa,kf,lH.map pZ,rfl,eF,by rw [C5,fc];rfl,?_,λL2 rR ug fL pr pm Q_=>?_⟩
 .rw [au];exact qO lH ct.nd λy hy=>T4 _ (ct.snd y (.inl hy))
 obtain⟨h2,o6,Ry⟩:=pT pr pm;have sL:=af fL (.lst (rR.map V.ref));refine q L2 rR (ug.map pN) _ (none_of WM fL) (WM.trans sL) ae (Paired.b_ o6 λ_ _ y=>sL _ _ y) (by rw [<-h2];exact Q_) (Ry.nodup_iff.mpr ct.nd) λy=>?_;rw [Ry.mem_iff,ct.done];exact⟨T4 y,λc=>c.mono (λa b h=>.inl h) λz hz=>.base hz⟩
end
def ER {aa:83}{x:Str}(hx:x∈bS false aa):Em aa x:=by
 have all:∀(n i:Nat)(h:Str),i < n->(bS false aa)[i]?=some h->Em aa h:=by
  intro n
  induction n with
  | zero=>intro i h l;omega
  | succ n ih =>
   intro i h l e;obtain⟨cZ,a,b⟩:=(ot false aa).ord i h e;exact Em.mk (ru:=(h,cZ)) a λp hp=>by
    rcases b p hp with q | q
    .obtain⟨j,lj,ej⟩:=wQ q;exact ih j p ∅ ej
    cases q.1
 obtain⟨i,e⟩:=gO hx;exact all (i+1) i x ∅ e
def Lw {aa:83}{aL:z0h}(h:uc aa aL)(c:qz aa aa.length aL)(x:Str):x∈aL.map 82↔x∈bS false aa:=by
 constructor
 .exact λhx=>tK (IQ h x hx)
 intro hx;have e:=ER hx;clear hx
 induction e with
 | mk hr _ ih=>exact c _ (by rw [cw];exact hr) ih
def Gg {aa:83}{aL:z0h}{aW:List Be}{GY:z0i}(emp:uc aa aL)(mX:qz aa aa.length aL)(Ja:um aa (hd aa) 195 aW)(zO:z5 aa (hd aa) 195 aa.length aW)
  (qp:∀x,x∈GY↔iD aa (bS false aa) x.2 x.1)(a b:Pl):x9 aa aL aW a b↔mZ aa GY (bS false aa) a b:=by
 have Pc:=Lw emp mX;have bin:∀y,y∈bq aW↔y∈GY:=λy=>⟨λh=>(qp y).mpr ((vT Ja y h).congr λz hz=>(Pc z).mp hz),λh=>iD.in_ (E3 zO) (((qp y).mp h).congr λz hz=>(Pc z).mpr hz)⟩;have eE:KS aL=λz=>decide (z∈bS false aa):=funext λz=>by
  show decide (z∈aL.map 82)=_;rw [jf,decide_eq_true_iff,decide_eq_true_iff,Pc]
 have ew:∀w z,w∈i9 (hd aa) aW z↔w∈Fi aa GY z:=λw z=>by
  unfold i9 Fi;by_cases c:z∈hm aa
  .rw [aw c,aw (l_.mp c),pF,yV,bin]
  rw [ar c,ar (λy=>c (l_.mpr y))]
 have lk:∀zs w,PL (hd aa) aW (KS aL) zs w↔∃j z,zs[j]?=some z/\(∀x∈zs.take j,x∈bS false aa)/\w∈Fi aa GY z:=λzs w=>by
  rw [eE];unfold PL;constructor
  .rintro⟨j,z,h1,h2,h3⟩;exact⟨j,z,h1,λx hx=>cW (((xM _ zs j).mp h2).2 x hx),(ew w z).mp h3⟩
  rintro⟨j,z,h1,h2,h3⟩;exact⟨j,z,h1,(xM _ zs j).mpr ⟨(bw.mp h1).1,λx hx=>cE (h2 x hx)⟩,(ew w z).mpr h3⟩
 have al:∀zs:z0t,zs.all (KS aL)=true↔∀x∈zs,x∈bS false aa:=λzs=>by
  rw [eE,eG];exact⟨λh x hx=>cW (h x hx),λh x hx=>cE (h x hx)⟩
 unfold x9 LQ uL mZ AhL;constructor
 .rintro(⟨h1,h2,h3,h4⟩ | ⟨h1,h2,h3⟩)
  .exact⟨h1,h2,.inr ⟨h3,(al _).mp h4⟩⟩
  exact⟨h1,h2,.inl ((lk _ _).mp h3)⟩
 rintro⟨h1,h2,h3 | ⟨h3,h4⟩⟩
 .exact .inr ⟨h1,h2,(lk _ _).mpr h3⟩
 exact .inl ⟨h1,h2,h3,(al _).mpr h4⟩
def Py {aa:83}{p:Pl}{x:Str}(h:x∈JT aa p):∃ru∈aa,x∈ru.2:=by
 unfold JT dP at h
 split at h
 .rename_i ru e
  exact⟨ru,cC e,List.mem_of_mem_drop h⟩
 split at h
 .rw [Ah (by show 1<=_;omega)] at h;cases h
 rw [List.drop_nil] at h;cases h
def yw {aa:83}{bq:z0i}{ns:z0t}(hb:∀x∈bq,iD aa ns x.2 x.1){a b:Pl}(h:mZ aa bq ns a b):b.1 < aa.length/\b.2.1=0/\(b.2.2=a.2.2\/(b.2.2∉hm aa/\∃ru∈aa,b.2.2∈ru.2)):=by
 obtain⟨⟨nm,ru,h1,h2,h3⟩,h4,h5⟩:=h;refine⟨(bw.mp h2).1,h4,?_⟩;rcases h5 with ⟨j,z,e1,_,e3⟩ | ⟨e1,_⟩
 .refine .inr ?_;unfold Fi at e3;by_cases c:z∈hm aa
  .rw [aw c] at e3;exact(hb _ (yV.mp e3)).text
  rw [ar c] at e3;rw [bA.mp e3];exact⟨c,Py (cC e1)⟩
 exact .inl e1
def Fc.Zm {c:Int}{aa:83}(g:Fc c aa){bq:z0i}{ns:z0t}(hb:∀x∈bq,iD aa ns x.2 x.1){ps:List Pl}(lp:ps.length<=3)(l:List Pl)(nd:l.Nodup)(h:∀z∈l,mi (mZ aa bq ns) ps z):l.length < 64:=by
 obtain⟨cy,nk,fZ,cs⟩:=g.tx;have gl:=mW c;have n5:=nk.O3;have m8:=g.most;rcases cs with cs | cs
 .have:=tH (n:=aa.length) (ts:=cy++eY c) (λa b r=>by
   obtain⟨x1,x2,x3⟩:=yw hb r;exact⟨x1,x2,x3.imp id λ⟨_,ru,hr,hw⟩=>(fZ ru hr).2.2 _ hw⟩) l nd h
  have h2:aa.length * (ps.length+(cy++eY c).length)<=4 * 11:=Nat.mul_le_mul cs (by rw [a8];omega);omega
 have:=tH (n:=aa.length) (ts:=eY c) (λa b r=>by
  obtain⟨x1,x2,x3⟩:=yw hb r;refine⟨x1,x2,x3.imp id λbI=>?_⟩;obtain⟨hn,ru,hr,hw⟩:=bI;rcases bO.mp ((fZ ru hr).2.2 _ hw) with q | q
  .exact absurd (cs _ q) hn
  exact q) l nd h
 have h2:aa.length * (ps.length+(eY c).length)<=8 * 6:=Nat.mul_le_mul m8 ∅;omega
section
def CA (K:bp):Sp:=λvs H Q _=>∃(R:Addr) (c:Int)(rs:z0q)(aa:83),vs=[.ref R,.int c]/\aI K H R 146/\bK K H rs aa/\aa≠[]/\∀(t:Addr)(z:Pl)(H':Hp),H t=none->aD H H'->j8 H' t z->z.1<=aa.length->z.2.1<=(dP aa z.1).length->Q (.ref t) H'
def wZ:aK ["_law_rules","_law_cell","_law_number","_law_dot"] ["_law_rules","_law_cell"] (ay AO):=152
def Hl (F:ir K "_law_place" "_law_place" AO f fd)(T:Txt mg)(GP:aF P w K mg base 1 "_law_parts" ["_law_rules","_law_number"] (nI K)):bR P w K mg base fK 2 f fd ["_law_rules","_law_cell"] (CA K):=by
 refine F.ok wZ 157 161
 .obtain⟨R,c,rs,aa,rfl,_⟩:=h;rfl
 obtain⟨R,c,rs,aa,rfl,hR,cI,jU,q⟩:=h;refine⟨_,ai (az (i:=2) wZ.nd rfl 84 (aQ du (pv 1) (aQ dw (aP aU rfl T.len ff (ab (pv 0) ak)) av)))
  (ai (az (i:=3) wZ.nd rfl 84 (aQ du (aQ c_ (pv 1) av) (aQ dw (aP aU rfl T.len ff (ab (bu GP hr rfl (ab (pv 0) (ab (pv 2) ak))) ak)) av)))
  (ao (br (bW (ab (pv 2) (ab (pv 3) (ab (@ba _ _ _ _ _ _ _ cU (@bM _ _ _ _ (@ab _ _ _ _ _ cM (@ab _ _ _ _ _ cM (@ab _ _ _ _ _ cM (@ab _ _ _ _ _ cM (@ak _) rfl) rfl) rfl) rfl)) (aQ du (aQ c_ (pv 1) av) av) 137) ak))))))),?_⟩
 dsimp only [zC];have ll:=bc cI;refine⟨_,rfl,_,rfl,R,_,rfl,.inl hR,_,_,rfl,rfl,_,_,rfl,rfl,∅,?_⟩;rw [au,ll];obtain⟨n,hn⟩:∃n:Nat,c % ((aa.length:Int)+1)=(n:Int):=⟨(c % ((aa.length:Int)+1)).toNat,by have:=Int.emod_nonneg c (show ((aa.length:Int)+1)≠0 by omega);omega⟩;have Fq:n<=aa.length:=by have:=Int.emod_lt_of_pos c (show 0 < ((aa.length:Int)+1) by omega);omega
 dsimp only;rw [hn];refine⟨_,rfl,_,_,rfl,rfl,⟨nofun,nofun⟩,_,rfl,_,rfl,R,n,rs,aa,rfl,hR,cI,jU,Fq,λpp H1 s1 ep=>?_⟩;refine⟨pp,_,rfl,.inr ep,_,_,rfl,rfl,_,_,rfl,rfl,∅,?_⟩;rw [au];obtain⟨d,hd2⟩:∃d:Nat,c / 8 % (((dP aa n).length:Int)+1)=(d:Int):=⟨(c / 8 % (((dP aa n).length:Int)+1)).toNat,by have:=Int.emod_nonneg (c / 8) (show (((dP aa n).length:Int)+1)≠0 by omega);omega⟩;have iW:d<=(dP aa n).length:=by have:=Int.emod_lt_of_pos (c / 8) (show 0 < (((dP aa n).length:Int)+1) by omega);omega
 dsimp only;rw [hd2];refine⟨_,rfl,_,rfl,zl4,λW hW=>?_⟩;have k2:=af hW (.lst [V.str "",V.str "a",V.str "b",V.str "zz"]);have eW:aI K (upd H1 W (.lst [V.str "",V.str "a",V.str "b",V.str "zz"])) W [V.str "",V.str "a",V.str "b",V.str "zz"]:=aI.of ae;generalize upd H1 W (.lst [V.str "",V.str "a",V.str "b",V.str "zz"])=H2 at k2 eW;obtain⟨m,hm4⟩:∃m:Nat,c / 32 % 4=(m:Int):=⟨(c / 32 % 4).toNat,∅⟩;have lm:m < 4:=by omega
 obtain⟨tx,htx⟩:∃tx:Str,([V.str "",V.str "a",V.str "b",V.str "zz"]:List V)[m]?=some (.str tx):=by
  match m,lm with
  | 0,_=>exact⟨_,rfl⟩
  | 1,_=>exact⟨_,rfl⟩
  | 2,_=>exact⟨_,rfl⟩
  | 3,_=>exact⟨_,rfl⟩
 refine⟨_,rfl,_,_,rfl,rfl,⟨nofun,nofun⟩,_,_,rfl,rfl,nofun,?_⟩;dsimp only;rw [hm4];refine⟨W,_,_,_,rfl,rfl,eW,cK htx,Jt,λt ht=>?_⟩;have AZ:=s1.trans k2;exact q t (n,d,tx) _ (none_of AZ ht) (AZ.trans (af ht _)) ae Fq iW
end
abbrev ND:Stmt:=top 59
def Z_ (ns:z0u)(lo hi:z0p):∃cs:z0u,g8 (ns.map V.int) lo hi=cs.map V.int/\cs.length<=ns.length:=by
 refine⟨(ns.drop (HT.fM (ns.map V.int).length 0 lo)).take (HT.fM (ns.map V.int).length (ns.map V.int).length hi - HT.fM (ns.map V.int).length 0 lo),?_,?_⟩
 .unfold g8;rw [mq,List.map_drop]
 rw [dJ,mz];omega
def QN {A:Around}{k n:Nat}(hr:gC k A)(h:n<=16 * k+200):A.units+n < cLine:=by have:=hr.un;omega
def AD {a b:List Pl}(ha:LR KY (a.map pZ))(hb:LR KY (b.map pZ))(na:a.Nodup)(nb:b.Nodup)(h:∀z,z∈a↔z∈b):a=b:=by
 have p:a.Perm b:=(List.perm_ext_iff_of_nodup na nb).mpr h;have e:=rV CV ha hb (p.map _);have e2:=congrArg (List.map pN) e;rw [fc,fc,show (pN ∘ pZ)=id from rfl,List.map_id,List.map_id] at e2;exact e2
def Dl {R:Pl->Pl->Prop}{ps qs:List Pl}(h:∀z∈qs,mi R ps z)(g:∀z∈ps,mi R qs z)(z:Pl):mi R qs z↔mi R ps z:=⟨λc=>c.mono (λ_ _ r=>r) h,λc=>c.mono (λ_ _ r=>r) g⟩
theorem jV {K:bp}{H:Hp}:∀{as bs:z0q}{zs:List Pl},Paired (j8 H) as zs->Paired (j8 H) bs zs->Paired (LW K H 1) (as.map V.ref) (bs.map V.ref)
 | _,_,_,.nil,.nil=>.nil
 | _,_,_,.cons a t,.cons b u=>.cons (.inr ⟨_,_,_,_,rfl,rfl,.inr ⟨aY.of a,aY.of b⟩,.cons (LW.self (.inl rfl) 0) (.cons (LW.self (.inl rfl) 0) (.cons (LW.self (.inl rfl) 0) .nil))⟩) (jV t u)
section
def CC (K:bp)(T1 T2 T3:Addr):Sp:=λvs H Q _=>∃(a:Addr)(ns:z0u),vs=[.ref a]/\aI K H a (ns.map V.int)/\ns.length<=63/\Dt T1 T2 T3 H/\∀H',Q (.bl true) H'
def jq:aK ["_law_script","_law_rules","_law_grammar_here","_law_pairs","_law_empty","_law_cell","_law_places","_law_due","_law_found","_law_number","_law_dot","_law_ahead_here","_law_part"] ["_law_script"] (ay ND):=152
def Ob {Cg C T1 T2 T3 fG:Addr}{fdG:FuncData}(F:ir K "law" "law" ND f fd)(T:Txt mg)
  (GG:aF P w K mg base 8 "_law_grammar" ["_law_script","_law_at"] (F1 K))(GB:aF P w K mg base 8 "_law_begins" ["_law_rules"] (yB K))(GE:aF P w K mg base 8 "_law_ended" ["_law_rules","_law_words_here"] (qB K))(GPl:aF P w K mg base 8 "_law_place" ["_law_rules","_law_cell"] (CA K))(GLC:aF P w K mg base 8 "_law_closed" ["_law_rules","_law_pairs","_law_empty","_law_places"] (u4 K))(GCL:aF P w K mg base 8 "closed_list" ["grammar","places"] (yz K C Cg))(GLP:aF P w K mg base 8 "_law_parts" ["_law_rules","_law_number"] (nI K))(GPA:aF P w K mg base 8 "part_at" ["grammar","place"] (rY K C Cg))
  (G:GC K Cg)(MG:Mk K Cg fG)(FG:bR P w K mg base fK 7 fG fdG ["self","rules","strengths"] (CF K Cg C T1 T2 T3))(B1:Binds K fdG ["self","rules","strengths"] [.none])(mG:mg "Grammar"=some (.ref Cg)):bR P w K mg base fK 9 f fd ["_law_script"] (CC K T1 T2 T3):=by
 refine F.ok jq 157 161
 .obtain⟨a,ns,rfl,_⟩:=h;rfl
 obtain⟨S,ns,rfl,hS,hl,hT,q⟩:=h;have OA:=QN (n:=1+1) hr nofun;refine⟨_,ai (az (i:=1) jq.nd rfl (Or.inr rfl) (bu GG hr rfl (ab (pv 0) (ab av ak))))
  (ai (az (i:=2) jq.nd rfl 84 (xu (dvs:=[.d0]) MG FG hr rfl mG B1 (.cons rfl .nil) lU (ab (bL gi rfl T.lst gy (ab (pv 1) ak)) ak)))
  (ai (az (i:=3) jq.nd rfl 84 (bu GB hr rfl (ab (pv 1) ak)))
  (ai (az (i:=4) jq.nd rfl 84 (bu GE hr rfl (ab (pv 1) (ab fq ak))))
  (ai (bJ bV rfl (aR (aQ jb (dW wY (pv 0) (eU av) (eU av)) (bM (ab av ak)))) (aq (i:=5) jq.nd rfl (Or.inr rfl))
   (ai (gT (iy:=6) ["_law_k"] [(1,"_law_rules"),(5,"_law_cell")] jq.nd rfl rfl rfl (ib rfl T.Fl (ab (aQ dw av (aQ du (pv 5) av)) ak)) (aS rfl rfl) nofun rfl nofun
    (λ_ _ _ _ _=>aq (i:=0) (show (["_law_k","_law_rules","_law_cell"]:z0t).Nodup by decide +kernel) rfl 84) 177
    (λ_ _ _ _ _=>bu GPl hr rfl (ab (pv 1) (ab (aQ c_ (aQ c_ (pv 2) av) (aQ dw av (aQ He av (pv 0)))) ak))))
   (ai (az (i:=7) jq.nd rfl 84 (bu GLC hr rfl (ab (pv 1) (ab (pv 3) (ab (pv 4) (ab (pv 6) ak))))))
   (ai (az (i:=8) jq.nd rfl 84 (bu GCL hr rfl (ab (pv 2) (ab (bL gi rfl T.lst gy (ab (pv 6) ak)) ak))))
   (ai (cq (PW.pt (GO (GU (gS (aP xU rfl T.isi PyProof.Rows.boot_isinstance (ab (pv 8) (ab (Kv (v:=.ty "list") rfl T.lst gy rfl) ak))))) (GO (a_ (mJ 1 OA) (pv 8) (pv 7) (cx _)) (GK (a_ (mJ 1 OA) (bu GCL hr rfl (ab (pv 2) (ab (aQ jb (pv 6) (pv 6)) ak))) (pv 7) (cx _)))))) (ao (br fq)) a7)
   (ai (bJ bV rfl (aR (pv 6)) (gq rfl (aB (aq (i:=9) jq.nd rfl 84) (aB (aq (i:=10) jq.nd rfl 84) (aB (aq (i:=11) jq.nd rfl 84) bH))))
    (ai (az (i:=12) jq.nd rfl 84 (ba bE (aQ qF (bu GLP hr rfl (ab (pv 1) (ab (pv 9) ak))) (bW (ab G5 ak))) (pv 10) 137))
    (ao (cq (a_ RB (bu GPA hr rfl (ab (pv 2) (ab (bW (ab (pv 9) (ab (pv 10) (ab (pv 11) ak)))) ak))) (pv 12) (cx _)) (ao (br fq)) a7))))
   (ai (cT (gX gw ix iz cv (pv 8) (ab (bW (ab av (ab av (ab cM ak)))) ak)))
   (ao (cq (a_ (mJ 1 OA) (bu GCL hr rfl (ab (pv 2) (ab (pv 7) ak))) (pv 7) (cx _)) (ao (br fq)) a7)))))))))
  (ao (br fq)))))),?_⟩
 nofun
 refine⟨_,rfl,S,ns,0,rfl,hS,∅,λc R rs aa H1 hc f0 s1 eR rl go=>?_⟩;obtain⟨rk,bb,gd⟩:=go.good;obtain⟨cy,nk,i6⟩:=go.ins;have l1:=go.one;have l8:=go.most;have h8:∀ru∈aa,ru.2.length<=8:=λru h=>by have:=(i6 ru h).2.1;omega
 have qo:Small aa:=⟨l1,∅,λru h=>(i6 ru h).2.1⟩;have jU:aa≠[]:=λz=>by rw [z] at l1;cases l1
 refine⟨_,rfl,R,_,rfl,.inl (aI.of eR),λR3 hR3=>?_⟩;have k3:=af hR3 (.lst 146);have ZN:upd H1 R3 (.lst 146) R3=some (.lst 146):=ae;generalize upd H1 R3 (.lst 146)=H3 at k3 ZN;have NM:=s1.trans k3;have t3:=hT.same NM;have Rn:=rl.same k3;have TJ:=k3 _ _ eR;intro g x hg hx nx;refine⟨H3,g,x,R3,.d0,rs,[],aa,[],rk,bb,rfl,(af hx _).trans (af (by rw [aj nx.symm];exact hg) _),hg,ae,aI.of ZN,Rn,∅,h8,jU,.inl ⟨rfl,rfl,rfl⟩,85,λru h=>(by cases h),85,gd,t3,λbt H5 s5 t5 gv btv=>⟨rfl,?_⟩⟩;have U_:=Kp.of3 s5 t3;have Mh:=U_.aa Rn;have VO:=U_.lst TJ;have hS5:aI K H5 S (ns.map V.int):=U_.seq (NM.seq hS);clear s5 t5 t3 Rn TJ k3 ZN;obtain⟨aL,aW,bv⟩:=btv;have gA5:Nc K C Cg H5 g aa aL aW:=⟨H3,rs,[],bt,gv,Mh,bv⟩;have VZ:=bv.Ja.nd;have X0:aW.length<=63:=by have:=go.BU _ (bq aW) VZ (vT bv.Ja);unfold bq at this;rw [au] at this;exact this
 refine⟨_,rfl,R,rs,aa,rfl,aI.of VO,Mh,qo,go.BU _,λLp us Kl H6 fLp s6 eLp pus U6 P_=>?_⟩;have lp0:=go.BU _ Kl U6 λy hy=>(P_ y).mp hy;refine⟨_,rfl,R,rs,aa,false,rfl,aI.of (s6 _ _ VO),Mh.same s6,qo,λDe H7 hDe s7 e7 l7=>?_⟩;have Rl:=s6.trans s7;have gA7:=gA5.same Rl;have eR7:=Rl _ _ VO;have rl7:=Mh.same Rl;have TL:=s7 _ _ eLp;have pu7:Paired (Jn K H7) us Kl:=Paired.b_ pus λ_ _ z=>s7.tup z;have hS7:=Rl.seq hS5;have same:=Gg bv.emp bv.mX bv.Ja bv.zO P_;have O5:∀{ps:List Pl},ps.length<=3->∀l:List Pl,l.Nodup->(∀z∈l,mi (mZ aa Kl (bS false aa)) ps z)->l.length < 64:=λlp l nd h=>go.Zm (λx hx=>(P_ x).mp hx) lp l nd h;have T7:∀(ps:List Pl)(z:Pl),mi (x9 aa aL aW) ps z↔mi (mZ aa Kl (bS false aa)) ps z:=λps z=>⟨λh=>h.mono (λa b r=>(same a b).mp r) λz hz=>.base hz,λh=>h.mono (λa b r=>(same a b).mpr r) λz hz=>.base hz⟩;clear same gA5 Mh VO pus VZ U_ hS5 Rl s6 s7 eLp gv bv hg hx nx hR3;obtain⟨cs,ecs,lcs⟩:=Z_ ns (some 12) (some 32);refine⟨_,rfl,_,rfl,_,rfl,S,_,rfl,hS7,λLc hLc=>?_⟩;rw [ecs];have k9:=af hLc (.lst (cs.map V.int));have e9:upd H7 Lc (.lst (cs.map V.int)) Lc=some (.lst (cs.map V.int)):=ae;generalize upd H7 Lc (.lst (cs.map V.int))=H9 at k9 e9;refine⟨Fg,λLd hLd=>?_⟩;have kA:=af hLd (.lst [V.int 0]);have eA:upd H9 Ld (.lst [V.int 0]) Ld=some (.lst [V.int 0]):=ae;generalize upd H9 Ld (.lst [V.int 0])=HA at kA eA;refine⟨Lc,Ld,cs.map V.int,[V.int 0],rfl,rfl,kA _ _ e9,eA,fits (by rw [au];show cs.length+1<=_;omega),λLx hLx=>?_⟩;have ecx:cs.map V.int++[V.int 0]=(cs++[0]).map V.int:=by rw [bj];rfl
 rw [ecx];have kX:=af hLx (.lst ((cs++[0]).map V.int));have eX:upd HA Lx (.lst ((cs++[0]).map V.int)) Lx=some (.lst ((cs++[0]).map V.int)):=ae;generalize upd HA Lx (.lst ((cs++[0]).map V.int))=HX at kX eX;have NI:=(k9.trans kA).trans kX;have VA:=gA7.same NI;have Y5:aI K HX R 146:=aI.of (NI _ _ eR7);have W3:=rl7.same NI;have hLX:aI K HX Lp (us.map V.ref):=aI.of (NI _ _ TL);have puX:Paired (Jn K HX) us Kl:=Paired.b_ pu7 λ_ _ z=>NI.tup z;have hEX:aI K HX De ((bS false aa).map V.str):=aI.of (NI _ _ e7);clear gA7 eR7 rl7 TL pu7 hS7 e7 NI k9 kA kX e9 eA;refine⟨Lx,rfl,⟨_,aI.of eX⟩,?_⟩;refine bP (xs:=(cs++[0]).map V.int) (λk σ HI=>∃(y5 y6 y7 y8 y9 pS JU wG:Option V),σ=[aE S,aE R,aE g,aE Lp,aE De,y5,y6,y7,y8,y9,pS,JU,wG]/\aD HX HI) ⟨_,_,_,_,_,_,_,_,rfl,aD.refl _⟩ ?_ ?_ ?_
 .rintro k σ HI _ ⟨y5,y6,y7,y8,y9,pS,JU,wG,rfl,sI⟩;exact sI.seq (aI.of eX)
 .intro k x σ HI ex mU
  ac_nf0
  obtain⟨y5,y6,y7,y8,y9,pS,JU,wG,rfl,sI⟩:=mU;rw [a0] at ex;obtain⟨cl,ZH,rfl⟩:=b0.mp ex;refine goN ?_
  ac_rfl
  obtain⟨m,hm3⟩:∃m:Nat,1+cl % 3=(m:Int):=⟨(1+cl % 3).toNat,∅⟩;have m3:m<=3:=by omega
  refine⟨_,rfl,_,_,rfl,rfl,nofun,_,_,rfl,rfl,_,rfl,∅,∅,λD hD=>?_⟩;have tn:(1+cl % 3).toNat=m:=by omega
  refine qe (lo:=0) (λi ys σ2 H2=>∃(ts:z0q)(ps:List Pl),ys=ts.map V.ref/\Paired (j8 H2) ts ps/\ps.length=i/\(∀z∈ps,z.1<=aa.length/\z.2.1<=(dP aa z.1).length)/\(∃y0,σ2=[y0,aE R,some (.int cl)])/\aD HI H2/\H2 D=some (.lst ys)) ⟨[],[],rfl,.nil,rfl,λ_ h=>(nomatch h),⟨none,rfl⟩,af hD _,ae⟩ (λi ys σ2 H2 hi h=>?_) (λys σ2 H2 h=>?_)
  .obtain⟨ts,ps,rfl,pp,lp,hz,⟨y0,rfl⟩,s2,ou⟩:=h;have hi3:i < 3:=by omega
   refine goN (vq ?_);refine⟨_,rfl,_,rfl,_,_,rfl,rfl,⟨nofun,nofun⟩,_,rfl,_,_,rfl,rfl,.inl ⟨nofun,nofun⟩,_,_,rfl,rfl,_,_,rfl,rfl,⟨∅,∅⟩,R,_,rs,aa,rfl,(sI.trans s2).seq Y5,W3.same (sI.trans s2),jU,λt z H3 fT s3 pt z1 z2=>?_⟩;have uF:=s3 _ _ ou;have XO:=bc pp;refine⟨uF,176,ts++[t],ps++[z],by rw [bj];rfl,?_,by rw [a8,lp];rfl,λy hy=>?_,⟨_,rfl⟩,gG (s2.trans s3) hD,ae⟩
   .exact gk (Paired.b_ pp λ_ _ y=>dq uF (λ_ x=>by cases x) (s3 _ _ y)) (dq uF (λ_ x=>by cases x) pt)
   rcases bO.mp hy with h | h
   .exact hz y h
   rw [bA.mp h];exact⟨z1,z2⟩
  obtain⟨ts,ps,rfl,pp,lp,hz,_,s2,ou⟩:=h;rw [tn] at lp;have Ke:=sI.trans s2;refine goN ?_
  ac_rfl
  have XO:=bc pp;refine⟨_,rfl,_,rfl,_,rfl,_,rfl,R,Lp,De,D,rs,us,ts,ps,aa,Kl,bS false aa,rfl,Ke.seq Y5,W3.same Ke,jU,l8,h8,Ke.seq hLX,Paired.b_ puX λ_ _ z=>Ke.tup z,lp0,Ke.seq hEX,aI.of ou,pp,∅,λz h=>(hz z h).1,O5 ∅,λPM UI zd H4 fLd s4 VP pd sd U5 ind=>?_⟩;have BU:∀(qs:List Pl),(∀z,mi (x9 aa aL aW) qs z↔mi (mZ aa Kl (bS false aa)) ps z)->∀l:List Pl,l.Nodup->(∀z∈l,mi (x9 aa aL aW) qs z)->l.length < 64:=λqs e l nd h=>O5 (ps:=ps) ∅ l nd λz hz=>(e z).mp (h z hz);have lzd:zd.length < 64:=O5 (ps:=ps) ∅ zd U5 λz h=>(ind z).mp h;refine⟨_,rfl,_,rfl,D,_,rfl,.inl (aI.of (s4 _ _ ou)),λD5 MO=>?_⟩;have k5:=af MO 163;have VS:upd H4 D5 163 D5=some 163:=ae;generalize upd H4 D5 163=H5a at k5 VS;have u9:=s4.trans k5;have sI5:=Ke.trans u9;have pp5:Paired (j8 H5a) ts ps:=Paired.b_ pp λ_ _ y=>u9 _ _ y;refine⟨g,D5,ts,ps,aa,aL,aW,rfl,VA.same sI5,jU,l8,h8,X0,aI.of VS,pp5,∅,BU ps (T7 ps),λLf UH zf H6a Zs s6a ZP pf sf ndf inf=>?_⟩;have ezf:zf=zd:=AD sf sd ndf U5 λz=>(inf z).trans ((T7 ps z).trans (ind z).symm);subst ezf;have UU:=k5.trans s6a;have WV:=s4.trans UU;have sI6:=Ke.trans WV;have Zr:HX Lf=none:=none_of sI5 Zs;refine⟨_,rfl,Lf,_,"list",true,rfl,aI.of ZP,Ie,true,rfl,?_⟩;refine iS ?_;refine⟨_,rfl,_,rfl,Lf,PM,_,_,rfl,rfl,aI.of ZP,aI.of (UU _ _ VP),jV pf (Paired.b_ pd λ_ _ y=>UU _ _ y),_,rfl,?_⟩;refine iS ?_;have TR:=WV _ _ ou;refine⟨_,rfl,_,rfl,_,rfl,D,D,_,_,rfl,rfl,TR,TR,fits (151),λDD hDD=>?_⟩;rw [<-bj];have k7:=af hDD (.lst ((ts++ts).map V.ref));have TN:upd H6a DD (.lst ((ts++ts).map V.ref)) DD=some (.lst ((ts++ts).map V.ref)):=ae;generalize upd H6a DD (.lst ((ts++ts).map V.ref))=H7a at k7 TN;have NJ:=WV.trans k7;have Xb:Paired (j8 H7a) ts ps:=Paired.b_ pp λ_ _ y=>NJ _ _ y;have e2:∀z,mi (x9 aa aL aW) (ps++ps) z↔mi (mZ aa Kl (bS false aa)) ps z:=λz=>(Dl (λz h=>.base ((bO.mp h).elim id id)) (λz h=>.base (eI _ h)) z).trans (T7 ps z);refine⟨g,DD,ts++ts,ps++ps,aa,aL,aW,rfl,VA.same (Ke.trans NJ),jU,l8,h8,X0,aI.of TN,Paired.Jc Xb Xb,by rw [a8];omega,BU _ e2,λLg usg zg V8 fLg US eLg pg sg ndg ing=>?_⟩;have ezg:zg=zf:=AD sg sd ndg U5 λz=>(ing z).trans ((e2 z).trans (ind z).symm);subst ezg;have Gu:=(UU.trans k7).trans US;refine⟨_,rfl,Lg,PM,_,_,rfl,rfl,aI.of eLg,aI.of (Gu _ _ VP),jV pg (Paired.b_ pd λ_ _ y=>Gu _ _ y),_,rfl,?_⟩;refine iS ?_;have Gv:=NJ.trans US;have sI8:=Ke.trans Gv;have VR:=Gv _ _ ou;have pp8:Paired (j8 V8) ts ps:=Paired.b_ Xb λ_ _ y=>US _ _ y;have ZO:=US _ _ (k7 _ _ ZP);have ZQ:=Gu _ _ VP;have pd8:Paired (j8 V8) UI zg:=Paired.b_ pd λ_ _ y=>Gu _ _ y;have nLL:PM≠Lf:=λy=>by rw [<-y,k5 _ _ VP] at Zs;cases Zs
  refine⟨_,rfl,D,rfl,⟨_,aI.of VR⟩,?_⟩;refine bP (xs:=ts.map V.ref) (λi σ HJ=>∃(y9 pS JU wG:Option V),σ=[aE S,aE R,aE g,aE Lp,aE De,some (.int cl),aE D,aE PM,aE Lf,y9,pS,JU,wG]/\aD V8 HJ) ⟨_,_,_,_,rfl,aD.refl _⟩ ?_ ?_ ?_
  .rintro i σ HJ _ ⟨y9,pS,JU,wG,rfl,sJ⟩;exact sJ.seq (aI.of VR)
  .intro i x σ HJ ex mU
   ac_nf0
   obtain⟨y9,pS,JU,wG,rfl,sJ⟩:=mU;rw [a0] at ex;obtain⟨t,et,rfl⟩:=b0.mp ex;have li:=(bw.mp et).1;obtain⟨z,ez⟩:∃z,ps[i]?=some z:=⟨_,df ∅⟩;obtain⟨t',Tu,pt⟩:=Paired.at_ pp8 i z ez;rw [et] at Tu;cases Tu;obtain⟨z1,z2⟩:=hz z (cC ez);have WO:=sI8.trans sJ;refine⟨t,_,rfl,aY.of (sJ _ _ pt),rfl,_,_,rfl,_,_,rfl,_,_,rfl,rfl,?_⟩;refine⟨_,rfl,_,rfl,R,z.1,rs,aa,rfl,WO.seq Y5,W3.same WO,jU,z1,λp2 HK sK eK=>?_⟩;refine⟨Fg,λt1 Vf=>?_⟩;have k1:=af Vf (.tup [V.d0]);have e1:aY K (upd HK t1 (.tup [V.d0])) t1 [V.d0]:=aY.of ae;generalize upd HK t1 (.tup [V.d0])=HL at k1 e1;refine⟨p2,t1,_,_,rfl,rfl,k1.tup eK,e1,fits (by rw [au];have:=xt h8 z.1;show _+1<=_;omega),λp3 HM sM eM=>?_⟩;have hat:pK ((dP aa z.1).map V.str++[V.d0]) ((z.2.1:Nat):Int)=some (paV ((dP aa z.1)[z.2.1]?)):=by
    refine cK ?_;by_cases cz:z.2.1 < (dP aa z.1).length
    .rw [nq (by rw [au];exact cz),a0,df cz];rfl
    rw [lR (151),au,ke (by omega:(dP aa z.1).length<=z.2.1),show z.2.1 - (dP aa z.1).length=0 by omega];rfl
   refine⟨_,rfl,p3,_,_,_,rfl,rfl,eM,hat,?_⟩;refine⟨_,rfl,_,rfl,_,rfl,_,rfl,Jt,λt2 jH=>?_⟩;have sJM:=(sK.trans k1).trans sM;have k2:=af jH (.tup [V.int (pZ z).1,V.int (pZ z).2.1,V.str (pZ z).2.2]);have e2t:aY K (upd HM t2 (.tup [V.int (pZ z).1,V.int (pZ z).2.1,V.str (pZ z).2.2])) t2 (A8 (pZ z)):=aY.of ae;generalize upd HM t2 (.tup [V.int (pZ z).1,V.int (pZ z).2.1,V.str (pZ z).2.2])=HN at k2 e2t;refine⟨g,t2,z,aa,aL,aW,rfl,VA.same ((WO.trans sJM).trans k2),jU,e2t,λHO sO=>?_⟩;have fin:aD V8 HO:=((sJ.trans sJM).trans k2).trans sO;cases uk:(dP aa z.1)[z.2.1]? with
   | none =>
    refine⟨_,rfl,rfl,_,rfl,?_⟩;refine iS ?_;exact⟨_,_,_,_,rfl,fin⟩
   | some nm =>
    refine⟨_,rfl,rfl,_,rfl,?_⟩;refine cf (λcc=>absurd (show (!decide (V.str nm=V.str nm))=true from cc) (by rw [cE rfl];decide)) λ_=>?_;exact⟨_,_,_,_,rfl,fin⟩
  rintro σ HJ ⟨y9,pS,JU,wG,rfl,sJ⟩;have TK:=sJ _ _ ZO;refine⟨_,rfl,.inl ⟨rfl,_,aI.of TK⟩,Jt,λt ht=>?_⟩;have kC:=af ht (.tup [V.int 0,V.int 0,V.str "x"]);generalize upd HJ t (.tup [V.int 0,V.int 0,V.str "x"])=HC at kC;have eLC:=kC _ _ TK;have lf:=bc pf;refine⟨Lf,_,_,rfl,rfl,eLC,176,?_⟩;have sXC:=(sI8.trans sJ).trans kC;have WN:aD HX (upd HC Lf (.lst (UH.map V.ref++[.ref t]))):=gG sXC Zr;have Ph:upd HC Lf (.lst (UH.map V.ref++[.ref t])) PM=some (.lst (UI.map V.ref)):=by rw [aj nLL];exact kC _ _ (sJ _ _ ZQ)
  have Xc:Paired (j8 (upd HC Lf (.lst (UH.map V.ref++[.ref t])))) UI zg:=Paired.b_ pd8 λ_ _ y=>dq eLC (λ_ x=>by cases x) (kC _ _ (sJ _ _ y));generalize upd HC Lf (.lst (UH.map V.ref++[.ref t]))=HD at WN Ph Xc;have e3:∀z,mi (x9 aa aL aW) zg z↔mi (mZ aa Kl (bS false aa)) ps z:=λz=>(Dl (λz h=>(T7 ps z).mpr ((ind z).mp h)) (λz h=>.base ((ind z).mpr (.base h))) z).trans (T7 ps z);refine⟨_,rfl,_,rfl,g,PM,UI,zg,aa,aL,aW,rfl,VA.same WN,jU,l8,h8,X0,aI.of Ph,Xc,∅,BU _ e3,λLh ush zh HE fLh sE eLh ph sh ndh inh=>?_⟩;have ezh:zh=zg:=AD sh sd ndh U5 λz=>(inh z).trans ((e3 z).trans (ind z).symm);subst ezh;refine⟨_,rfl,Lh,PM,_,_,rfl,rfl,aI.of eLh,aI.of (sE _ _ Ph),jV ph (Paired.b_ Xc λ_ _ y=>sE _ _ y),_,rfl,?_⟩;refine iS ?_;exact⟨_,_,_,_,_,_,_,_,rfl,WN.trans sE⟩
 rintro σ HI ⟨y5,y6,y7,y8,y9,pS,JU,wG,rfl,sI⟩;exact q HI
end
end g9
namespace L2
open PySem
def z7 {C:z0n->Prop}(h:∀a,C [a]):∀us:z0n,us.length=1->C us
 | [a],_=>h a
def iX {C:z0n->Prop}(h:∀a b,C [a,b]):∀us:z0n,us.length=2->C us
 | [a,b],_=>h a b
def wJ {C:z0n->Prop}(h:∀a b c,C [a,b,c]):∀us:z0n,us.length=3->C us
 | [a,b,c],_=>h a b c
def us4 {C:z0n->Prop}(h:∀a b c d,C [a,b,c,d]):∀us:z0n,us.length=4->C us
 | [a,b,c,d],_=>h a b c d
def Fj {C:z0n->Prop}(h:∀a b c d e,C [a,b,c,d,e]):∀us:z0n,us.length=5->C us
 | [a,b,c,d,e],_=>h a b c d e
def d7 (K:bp)(x:Str)(st:Stmt):Prop:=∃(g:Addr)(oc:Value)(od an:z0m)(sl:z0a)(kV dc pm cd ct:Value),PySem.W.nsIn K mainGlobals x=some (some (.ref g)) /\
 K.lookup g=some ⟨oc,od,.func (PySem.W.fnOf x x (dH st) (cJ st) (ay st) .none kV dc pm an cd ct),sl⟩/\PySem.W.codeIn K cd x=true/\PySem.W.keepIn K (.ref g)=true
def d7.get {K:bp}{h:Heap}{mg:z0c}{x:Str}{st:Stmt}(X:K.In h)(G:h.Ns mainGlobals mg)(H:d7 K x st):∃g gd,ir K x x st g gd/\mg x=some (.ref g):=by
 obtain⟨g,oc,od,an,sl,kV,dc,pm,cd,ct,a,l,c,k⟩:=H;exact⟨g,_,IG (st:=st) l c k,oN X G a⟩
def E_ (K:bp)(x:Str)(st:Stmt)(T:Addr):Prop:=∃(g:Addr)(oc:Value)(od an:z0m)(sl:z0a)(kV dc pm:Value)(c:Addr)(ct:Value),PySem.W.nsIn K mainGlobals x=some (some (.ref g)) /\
 K.lookup g=some ⟨oc,od,.func (PySem.W.fnOf x x (dH st) (cJ st) (ay st) .none kV dc pm an (.ref c) ct),sl⟩/\PySem.W.codeIn K (.ref c) x=true/\PySem.W.codeHdIn K c T=true/\PySem.W.keepIn K (.ref g)=true
def E_.get {K:bp}{h:Heap}{mg:z0c}{x:Str}{st:Stmt}{T:Addr}(X:K.In h)(G:h.Ns mainGlobals mg)(H:E_ K x st T):∃g gd,zX K x x st g gd T/\mg x=some (.ref g):=by
 obtain⟨g,oc,od,an,sl,kV,dc,pm,c,ct,a,l,d,e,k⟩:=H;exact⟨g,_,⟨⟨oc,od,kV,dc,pm,an,c,ct,sl,rfl,l,d,e⟩,k⟩,oN X G a⟩
def zX.binds {K:bp}{x qual:Str}{st:Stmt}{f T:Addr}{fd:FuncData}{ps:z0t}(F:zX K x qual st f fd T)
  (h:∀(kV doc pm:Value)(an:z0m)(d5 ct:Value)(us:z0n),us.length=ps.length->bindArgs (PySem.W.fnOf x qual (dH st) (cJ st) (ay st) .none kV doc pm an d5 ct) ⟨us,[]⟩=pure (ps.zip us)):Binds K fd ps []:=by
 obtain⟨oc,od,kV,doc,pm,an,c,ct,yL,rfl,lk,yh,_⟩:=F.ex;exact .all (h kV doc pm an (.ref c) ct)
def uM (K:bp)(C:Addr)(m qual:Str)(st:Stmt):Prop:=∃(g:Addr)(oc:Value)(od an:z0m)(sl:z0a)(kV dc pm cd ct:Value),PySem.W.findIn K (.ref C) m=some (some (.ref g)) /\
 K.lookup g=some ⟨oc,od,.func (PySem.W.fnOf m qual (dH st) (cJ st) (ay st) .none kV dc pm an cd ct),sl⟩/\PySem.W.codeIn K cd qual=true/\PySem.W.keepIn K (.ref g)=true/\PySem.W.isFn K (.ref g)=true
def uM.get {K:bp}{C:Addr}{m qual:Str}{st:Stmt}(H:uM K C m qual st):∃g gd,ir K m qual st g gd/\Meth K C m g:=by
 obtain⟨g,oc,od,an,sl,kV,dc,pm,cd,ct,a,l,c,k,i⟩:=H;exact⟨g,_,IG (st:=st) l c k,⟨a,i,k⟩⟩
def d7.c {K:bp}{h:Heap}{mg:z0c}{x:Str}{st:Stmt}{P:Program}{w:World}{base:Heap}{k:Nat}{ps:z0t}{sp:Sp}(H:d7 K x st)(X:K.In h)(G:h.Ns mainGlobals mg)
  (b:∀(kV doc pm:Value)(an:z0m)(d5 ct:Value)(us:z0n),us.length=ps.length->bindArgs (PySem.W.fnOf x x (dH st) (cJ st) (ay st) .none kV doc pm an d5 ct) ⟨us,[]⟩=pure (ps.zip us))
  (o:∀{f:Addr}{fd:FuncData},ir K x x st f fd->mg x=some (.ref f)->Binds K fd ps []->bR P w K mg base fK k f fd ps sp):aF P w K mg base k x ps sp:=by
 obtain⟨f,fd,F,m⟩:=H.get X G;have B:=F.binds b;exact⟨f,fd,o F m B,B,F.kp,m⟩
def hD {K:bp}{x:Str}{st:Stmt}(g c:Addr)(pm:Value)(h:(PySem.W.nsIn K mainGlobals x,K.lookup g,PySem.W.codeIn K (.ref c) x,PySem.W.keepIn K (.ref g))=(some (some (.ref g)),some ⟨.type "function",none,.func (PySem.W.fnOf x x (dH st) (cJ st) (ay st) .none .none .none pm none (.ref c) .none),#[]⟩,true,true)):d7 K x st:=by
 simp only [oM] at h;exact⟨g,_,_,_,_,_,_,_,_,_,h.1,h.2.1,h.2.2.1,h.2.2.2⟩
def hC {K:bp}{x:Str}{st:Stmt}{T:Addr}(g c:Addr)(pm:Value)(h:(PySem.W.nsIn K mainGlobals x,K.lookup g,PySem.W.codeIn K (.ref c) x,PySem.W.codeHdIn K c T,PySem.W.keepIn K (.ref g))=(some (some (.ref g)),some ⟨.type "function",none,.func (PySem.W.fnOf x x (dH st) (cJ st) (ay st) .none .none .none pm none (.ref c) .none),#[]⟩,true,true,true)):E_ K x st T:=by
 simp only [oM] at h;exact⟨g,_,_,_,_,_,_,_,c,_,h.1,h.2.1,h.2.2.1,h.2.2.2.1,h.2.2.2.2⟩
def hM {K:bp}{C:Addr}{m qual:Str}{st:Stmt}(g c:Addr)(pm:Value)(h:(PySem.W.findIn K (.ref C) m,K.lookup g,PySem.W.codeIn K (.ref c) qual,PySem.W.keepIn K (.ref g),PySem.W.isFn K (.ref g))=(some (some (.ref g)),some ⟨.type "function",none,.func (PySem.W.fnOf m qual (dH st) (cJ st) (ay st) .none .none .none pm none (.ref c) .none),#[]⟩,true,true,true)):uM K C m qual st:=by
 simp only [oM] at h;exact⟨g,_,_,_,_,_,_,_,_,_,h.1,h.2.1,h.2.2.1,h.2.2.2.1,h.2.2.2.2⟩
end L2
namespace g9
open PySem L2 ST M11
def PN (K:bp)(C:Addr)(m qual:Str)(st:Stmt):Prop:=∃(g:Addr)(oc:Value)(od an:z0m)(sl:z0a)(kV dc pm cd ct:Value)(T:Addr)(o:Obj) (n:Nat),PySem.W.findIn K (.ref C) m=some (some (.ref g)) /\
 K.lookup g=some ⟨oc,od,.func (PySem.W.fnOf m qual (dH st) (cJ st) (ay st) (.ref T) kV dc pm an cd ct),sl⟩/\PySem.W.codeIn K cd qual=true/\K.lookup T=some o/\o.data=.seq #[.none] n/\PySem.W.keepIn K (.ref g)=true/\PySem.W.isFn K (.ref g)=true
def PN.get {K:bp}{C:Addr}{m qual:Str}{st:Stmt}(H:PN K C m qual st):∃g gd,Jq K m qual st g gd/\PySem.W.findIn K (.ref C) m=some (some (.ref g))/\PySem.W.isFn K (.ref g)=true:=by
 obtain⟨g,oc,od,an,sl,kV,dc,pm,cd,ct,T,o,n,a,l,c,t,d,k,i⟩:=H;exact⟨g,_,⟨⟨oc,od,kV,dc,pm,an,cd,ct,sl,T,o,n,rfl,l,c,t,d⟩,k⟩,a,i⟩
structure Top (K:bp)(C Cg C3 T1 T2 T3:Addr)(tm:Tok):Prop where
 nB:PySem.W.nsIn K mainGlobals "BeginTable"=some (some (.ref C))
 nG:PySem.W.nsIn K mainGlobals "Grammar"=some (some (.ref Cg))
 nL:PySem.W.nsIn K mainGlobals "LeastTrees"=some (some (.ref C3))
 nM:PySem.W.nsIn K mainGlobals "MOST_RULES"=some (some (.int 60 tm))
 jJ:PySem.W.nsIn K mainGlobals "sorted"=some none
 h0:d7 K "heads_of" AU
 h1:d7 K "numbers_by_name" Gj
 h2:d7 K "standings_by_part" NB
 h3:d7 K "rule_size" oZ
 h4:d7 K "empty_by_name" so
 h5:d7 K "words_in" AK
 h6:d7 K "found_empties" sq
 h7:d7 K "first_places" xc
 h8:d7 K "way_back" NA
 h9:d7 K "steps_with_like_rows" AM
 h10:d7 K "find_loop" Gm
 h11:d7 K "refuse_twice" AL
 h12:d7 K "names_met" NC
 h13:d7 K "_law_cell_at" Gr
 h14:d7 K "_law_digits" xm
 Zi:d7 K "_law_names" AR
 h16:d7 K "_law_words" w_
 h17:d7 K "_law_more" Gk
 h18:d7 K "_law_skeleton" Gi
 h19:d7 K "_law_ended" AV
 h20:d7 K "_law_not_vast" Gh
 h21:d7 K "_law_good" Gp
 h22:d7 K "_law_grammar" Gn
 h23:d7 K "_law_begins" xp
 h24:d7 K "_law_parts" xg
 h25:d7 K "_law_ahead" AX
 h26:d7 K "_law_closed" sj
 h27:d7 K "_law_place" AO
 YG:d7 K "law" ND
 Yp:d7 K "settled_sizes" nR
 Yv:d7 K "refuse_faults" xb
 hL:E_ K "least_sizes" si T1
 hG:E_ K "greatest_empty_sizes" xi T2
 hLB:E_ K "least_by_part" nU T3
 mL1:uM K C3 "__init__" "LeastTrees.__init__" AS
 mB1:uM K C "__init__" "BeginTable.__init__" AW
 mB2:uM K C "find_begins" "BeginTable.find_begins" Gq
 mB3:uM K C "words_of_part" "BeginTable.words_of_part" AQ
 mB4:uM K C "first_words" "BeginTable.first_words" xl
 mB5:uM K C "all_empty" "BeginTable.all_empty" Gs
 mG2:uM K Cg "start" "Grammar.start" AN
 hPO:d7 K "parts_of" r_
 hPA:d7 K "part_at" xf
 hTB:d7 K "texts_behind" xo
 hCL:d7 K "closed_list" xn
 mG1:PN K Cg "__init__" "Grammar.__init__" xj
 pgB:PySem.W.plainGet K C Str.empty=true
 hdB:PySem.W.hasDictIn K C=true
 poB:PySem.W.plainOver K C=true
 saB:PySem.W.findIn K (.ref C) "__setattr__"=some (some (.builtin "object.__setattr__"))
 mkB:PySem.W.makesIn K C=true
 Mx:PySem.W.keepIn K (.ref C)=true
 pgG:PySem.W.plainGet K Cg Str.empty=true
 hdG:PySem.W.hasDictIn K Cg=true
 poG:PySem.W.plainOver K Cg=true
 saG:PySem.W.findIn K (.ref Cg) "__setattr__"=some (some (.builtin "object.__setattr__"))
 mkG:PySem.W.makesIn K Cg=true
 kpG:PySem.W.keepIn K (.ref Cg)=true
 pgL:PySem.W.plainGet K C3 Str.empty=true
 hdL:PySem.W.hasDictIn K C3=true
 poL:PySem.W.plainOver K C3=true
 saL:PySem.W.findIn K (.ref C3) "__setattr__"=some (some (.builtin "object.__setattr__"))
 mkL:PySem.W.makesIn K C3=true
 kpL:PySem.W.keepIn K (.ref C3)=true
 Cc:PySem.W.findIn K (.ref C) "empties"=some none
 Jj:PySem.W.findIn K (.ref C) "empty"=some none
 E6:PySem.W.findIn K (.ref C) "begins"=some none
 E5:PySem.W.findIn K (.ref C) "firsts"=some none
 Jf:PySem.W.findIn K (.ref C3) "rules"=some none
 Jh:PySem.W.findIn K (.ref C3) "empty"=some none
 Jg:PySem.W.findIn K (.ref C3) "least"=some none
 E4:PySem.W.findIn K (.ref C3) "hollow"=some none
 uK:PySem.W.findIn K (.ref C3) "beginnings"=some none
 Ji:PySem.W.findIn K (.ref Cg) "rules"=some none
 xZ:PySem.W.findIn K (.ref Cg) "strengths"=some none
 tZ:PySem.W.findIn K (.ref Cg) "begin_table"=some none
 x8:PySem.W.findIn K (.ref Cg) "standings"=some none
 tY:PySem.W.findIn K (.ref Cg) "small_trees"=some none
 We:PySem.W.nsIn K mainGlobals "len"=some none
 Ng:PySem.W.nsIn K mainGlobals "range"=some none
 yn:PySem.W.nsIn K mainGlobals "isinstance"=some none
 Nf:PySem.W.nsIn K mainGlobals "tuple"=some none
 QJ:PySem.W.nsIn K mainGlobals "list"=some none
 QK:PySem.W.nsIn K mainGlobals "dict"=some none
 Wi:PySem.W.nsIn K mainGlobals "all"=some none
 Wh:PySem.W.nsIn K mainGlobals "any"=some none
 Wb:PySem.W.nsIn K mainGlobals "str"=some none
 Wg:PySem.W.nsIn K mainGlobals "int"=some none
 QL:PySem.W.nsIn K mainGlobals "bool"=some none
 Av:PySem.W.nsIn K mainGlobals "enumerate"=some none
 V_:PySem.W.nsIn K mainGlobals "sum"=some none
 Wd:PySem.W.nsIn K mainGlobals "max"=some none
 Wc:PySem.W.nsIn K mainGlobals "min"=some none
def all_mk {l:PySem.W.OpenLaw}{w:World}{K:bp}{h:Heap}{mg:z0c}{fa C Cg C3 T1 T2 T3:Addr}{tm:Tok}(X:K.In h)(G:h.Ns mainGlobals mg)(hfa:mg "law"=some (.ref fa))(tp:Top K C Cg C3 T1 T2 T3 tm) :
  ∃fd:FuncData,(∀(s:Shared)(v:Value),BindsTo s fd ⟨[v],[]⟩ [("_law_script",v)])/\∀base:Heap,K.In base->base.Ns mainGlobals mg->uf mg base->bR l.prog w K mg base fK 9 fa fd ["_law_script"] (CC K T1 T2 T3):=by
 have T:Txt mg:=⟨hU X G tp.We,hU X G tp.Ng,hU X G tp.yn,hU X G tp.Nf,hU X G tp.QJ,hU X G tp.QK,hU X G tp.Wi,hU X G tp.Wh,hU X G tp.Wb,hU X G tp.Wg,hU X G tp.QL,hU X G tp.Av,hU X G tp.V_,hU X G tp.Wd,hU X G tp.Wc⟩;obtain⟨MR,M4,zY,Ms⟩:=tp.Yp.get X G;have M7:=zY.binds (ps:=["rules","sizes","better"]) λ_ _ _ _ _ _=>by exact wJ λ_ _ _=>rfl
 obtain⟨Tp,TU,Jr,RO⟩:=tp.Yv.get X G;have T9:=Jr.binds (ps:=["rules","strengths"]) λ_ _ _ _ _ _=>by exact iX λ_ _=>rfl
 obtain⟨f_L,d_L,F_L,m_L⟩:=tp.hL.get X G;have b_L:=F_L.binds (ps:=["rules"]) 215
 obtain⟨f_G,d_G,F_G,m_G⟩:=tp.hG.get X G;have b_G:=F_G.binds (ps:=["rules"]) 215
 obtain⟨Zn,Z7,PQ,XF⟩:=tp.hLB.get X G;have aah:=PQ.binds (ps:=["rules"]) 215
 obtain⟨Zq,aaV,UC,RR⟩:=tp.mB1.get;have aan:=UC.binds (ps:=["self","rules"]) λ_ _ _ _ _ _=>by exact iX λ_ _=>rfl
 obtain⟨aaM,aaU,UA,XM⟩:=tp.mB2.get;have aam:=UA.binds (ps:=["self","number","rule"]) λ_ _ _ _ _ _=>by exact wJ λ_ _ _=>rfl
 obtain⟨aaL,aaT,Uz,RQ⟩:=tp.mB3.get;have T_:=Uz.binds (ps:=["self","part"]) λ_ _ _ _ _ _=>by exact iX λ_ _=>rfl
 obtain⟨Zo,aaO,Uu,RP⟩:=tp.mL1.get;have aai:=Uu.binds (ps:=["self","rules","begin_table"]) λ_ _ _ _ _ _=>by exact wJ λ_ _ _=>rfl
 obtain⟨Zp,aaQ,Uw,XH,Yc⟩:=tp.mG1.get;have cB:BC K C:=⟨⟨tp.pgB,tp.hdB,tp.poB,tp.saB⟩,tp.Cc,tp.Jj,tp.E6,tp.E5⟩;have cG:GC K Cg:=⟨⟨tp.pgG,tp.hdG,tp.poG,tp.saG⟩,tp.Ji,tp.xZ,tp.tZ,tp.x8,tp.tY⟩;have cL:LC K C3:=⟨⟨tp.pgL,tp.hdL,tp.poL,tp.saL⟩,tp.Jf,tp.Jh,tp.Jg,tp.E4,tp.uK⟩;have kL:Mk K C3 Zo:=⟨tp.mkL,RP.at_,RP.fn,tp.kpL⟩;have kB:Mk K C Zq:=⟨tp.mkB,RR.at_,RR.fn,tp.Mx⟩;have kG:Mk K Cg Zp:=⟨tp.mkG,XH,Yc,tp.kpG⟩;obtain⟨f9,d9,F9,m9⟩:=tp.YG.get X G;have e:=hfa.symm.trans m9;cases e;obtain⟨oc,od,kV,doc,pm,an,d5,ct,yL,eL,lk,yh⟩:=F9.ex;refine⟨d9,λs v=>?_,λbase _ _ Tf=>?_⟩
 .rw [eL];exact .of_eq rfl
 have c0:=tp.h0.c (P:=l.prog) (w:=w) (base:=base) X G (215) λF m B=>Hr F T;have c1:=tp.h1.c (P:=l.prog) (w:=w) (base:=base) X G (215) λF m B=>KC F T c0;have c2:=tp.h2.c (P:=l.prog) (w:=w) (base:=base) X G (215) λF m B=>N_ F T;have c3:=tp.h3.c (P:=l.prog) (w:=w) (base:=base) X G (λ_ _ _ _ _ _=>by exact iX λ_ _=>rfl) λF m B=>yN F T;have c4:=tp.h4.c (P:=l.prog) (w:=w) (base:=base) X G (λ_ _ _ _ _ _=>by exact iX λ_ _=>rfl) λF m B=>Bi F T;have c5:=tp.h5.c (P:=l.prog) (w:=w) (base:=base) X G (215) λF m B=>Hh F T;have c6:=tp.h6.c (P:=l.prog) (w:=w) (base:=base) X G (215) λF m B=>Bj F T;have c7:=tp.h7.c (P:=l.prog) (w:=w) (base:=base) X G (λ_ _ _ _ _ _=>by exact iX λ_ _=>rfl) λF m B=>D0 F T;have c8:=tp.h8.c (P:=l.prog) (w:=w) (base:=base) X G (λ_ _ _ _ _ _=>by exact wJ λ_ _ _=>rfl) λF m B=>N9 F T;have c9:=tp.h9.c (P:=l.prog) (w:=w) (base:=base) X G (215) λF m B=>Hj F T c6 c0;have c10:=tp.h10.c (P:=l.prog) (w:=w) (base:=base) X G (215) λF m B=>KG F T c9 c8;have c11:=tp.h11.c (P:=l.prog) (w:=w) (base:=base) X G (215) λF m B=>Hi F T;have c12:=tp.h12.c (P:=l.prog) (w:=w) (base:=base) X G (215) λF m B=>Oa F T;have JP:=tp.h13.c (P:=l.prog) (w:=w) (base:=base) X G (λ_ _ _ _ _ _=>by exact iX λ_ _=>rfl) λF m B=>KN F T;have c14:=tp.h14.c (P:=l.prog) (w:=w) (base:=base) X G (λ_ _ _ _ _ _=>by exact wJ λ_ _ _=>rfl) λF m B=>Eb F T;have c15:=tp.Zi.c (P:=l.prog) (w:=w) (base:=base) X G (215) λF m B=>Hn F T;have c16:=tp.h16.c (P:=l.prog) (w:=w) (base:=base) X G (215) λF m B=>DY F T;have c17:=tp.h17.c (P:=l.prog) (w:=w) (base:=base) X G (λ_ _ _ _ _ _=>by exact Fj λ_ _ _ _ _=>rfl) λF m B=>KD F T (JP.mono nofun) (c14.mono nofun);have c18:=tp.h18.c (P:=l.prog) (w:=w) (base:=base) X G (λ_ _ _ _ _ _=>by exact us4 λ_ _ _ _=>rfl) λF m B=>KA F T (JP.mono nofun) (c14.mono nofun);have c19:=tp.h19.c (P:=l.prog) (w:=w) (base:=base) X G (λ_ _ _ _ _ _=>by exact iX λ_ _=>rfl) λF m B=>Hv F T;have c20:=tp.h20.c (P:=l.prog) (w:=w) (base:=base) X G (λ_ _ _ _ _ _=>by exact iX λ_ _=>rfl) λF m B=>Kz F T;have c21:=tp.h21.c (P:=l.prog) (w:=w) (base:=base) X G (215) λF m B=>KJ F T (c19.mono nofun) (c20.mono nofun);have c22:=tp.h22.c (P:=l.prog) (w:=w) (base:=base) X G (λ_ _ _ _ _ _=>by exact iX λ_ _=>rfl) λF m B=>KH F T (JP.mono nofun) (c15.mono nofun) (c16.mono nofun) (c18.mono nofun) (c17.mono nofun) (c21.mono nofun);have c23:=tp.h23.c (P:=l.prog) (w:=w) (base:=base) X G (215) λF m B=>Ee F T (c19.mono nofun);have c24:=tp.h24.c (P:=l.prog) (w:=w) (base:=base) X G (λ_ _ _ _ _ _=>by exact iX λ_ _=>rfl) λF m B=>Ea F T;have c25:=tp.h25.c (P:=l.prog) (w:=w) (base:=base) X G (λ_ _ _ _ _ _=>by exact Fj λ_ _ _ _ _=>rfl) λF m B=>Hz F T;have c26:=tp.h26.c (P:=l.prog) (w:=w) (base:=base) X G (λ_ _ _ _ _ _=>by exact us4 λ_ _ _ _=>rfl) λF m B=>Bh F T (hU X G tp.jJ) (c24.mono nofun) (c25.mono nofun);have c27:=tp.h27.c (P:=l.prog) (w:=w) (base:=base) X G (λ_ _ _ _ _ _=>by exact iX λ_ _=>rfl) λF m B=>Hl F T (c24.mono nofun);have aab:aF l.prog w K mg base 2 "settled_sizes" ["rules","sizes","better"] (iK K z_ sR.1 sR.2.1 sR.2.2.1 M11.bl):=⟨MR,M4,Bb zY T,M7,zY.kp,Ms⟩;have aac:aF l.prog w K mg base 2 "settled_sizes" ["rules","sizes","better"] (iK K Mu Bs.1 Bs.2.1 Bs.2.2.1 M11.bg):=⟨MR,M4,Bc zY T,M7,zY.kp,Ms⟩;have c_L:aF l.prog w K mg base 3 "least_sizes" ["rules"] (qA K T1):=⟨f_L,d_L,Hq F_L T Tf c5 aab,b_L,F_L.kp,m_L⟩;have c_G:aF l.prog w K mg base 3 "greatest_empty_sizes" ["rules"] (wU K T2):=⟨f_G,d_G,Hs F_G Tf aac,b_G,F_G.kp,m_G⟩;have T6:aF l.prog w K mg base 4 "refuse_faults" ["rules","strengths"] (rX K T1 T2):=⟨Tp,TU,DZ Jr T (oN X G tp.nM) c11 c_L c0 c12 c10 c_G,T9,Jr.kp,RO⟩;have aad:aF l.prog w K mg base 4 "least_by_part" ["rules"] (oX K T1 T3):=⟨Zn,Z7,Bg PQ T Tf (hU X G tp.jJ) (c0.mono nofun) c_L (c1.mono nofun) (c3.mono nofun),aah,PQ.kp,XF⟩;have RE:=Hm (P:=l.prog) (w:=w) (base:=base) Uz T cB;have Xh:=KL UA T cB c7 RE RQ T_;have Xi:=Hw UC T cB c6 c0 Xh XM aam;have Xe:=Ho Uu T cB cL aad (c4.mono nofun);have Xg:=Ht Uw T cG (T6.mono nofun) (c2.mono nofun) (Xi.mono nofun) kB aan (oN X G tp.nB) Xe kL aai (oN X G tp.nL);obtain⟨aaK,aaS,Uy,XJ⟩:=tp.mB4.get;have aal:=Uy.binds (ps:=["self","parts"]) λ_ _ _ _ _ _ us hl=>match us,hl with | [_,_],_=>rfl
 obtain⟨aaJ,aaR,Ux,XI⟩:=tp.mB5.get;have aak:=Ux.binds (ps:=["self","parts"]) λ_ _ _ _ _ _ us hl=>match us,hl with | [_,_],_=>rfl
 obtain⟨aaI,aaP,Uv,XG⟩:=tp.mG2.get;have aaj:=Uv.binds (ps:=["self"]) λ_ _ _ _ _ _ us hl=>match us,hl with | [_],_=>rfl
 have Xf:=Hk (P:=l.prog) (w:=w) (mg:=mg) (base:=base) Uv cG;have o4T:=Hu true Uy T cB c7 RE RQ T_;have o5T:=Hy (P:=l.prog) (w:=w) (base:=base) Ux T cB;have tW:=tp.hPO.c (P:=l.prog) (w:=w) (base:=base) X G (λ_ _ _ _ _ _ us hl=>match us,hl with | [_,_],_=>rfl) λF m B=>Bf (C:=C) F T cG XG Xf aaj
 have vN:=tp.hPA.c (P:=l.prog) (w:=w) (base:=base) X G (λ_ _ _ _ _ _ us hl=>match us,hl with | [_,_],_=>rfl) λF m B=>D_ F T tW
 have tV:=tp.hTB.c (P:=l.prog) (w:=w) (base:=base) X G (λ_ _ _ _ _ _ us hl=>match us,hl with | [_,_,_],_=>rfl) λF m B=>Ed F T cG cB tW o4T XJ aal (o5T.mono nofun) XI aak
 have uI:=tp.hCL.c (P:=l.prog) (w:=w) (base:=base) X G (λ_ _ _ _ _ _ us hl=>match us,hl with | [_,_],_=>rfl) λF m B=>Ec F T (hU X G tp.jJ) cG (c1.mono nofun) vN tV
 exact Ob F9 T (c22.mono nofun) (c23.mono nofun) (c19.mono nofun) (c27.mono nofun) (c26.mono nofun) (uI.mono nofun) (c24.mono nofun) (vN.mono nofun) cG kG (Xg.mono nofun) (IC Uw) (oN X G tp.nG)
def walk {l:PySem.W.OpenLaw}{q:Program}{loose:z0t}{XP:z0c->Heap->Prop}{YP:World->Heap->Prop}{d:DefRec}{K:Params->bp}(T1 T2 T3 c1 c2 c3:Addr)(Mq:T1≠T2)(Mp:T1≠T3)(Mo:T2≠T3)(hn:l.most=some 63)(SX:d.params.defaults=[])
  (hY:∀(w:World)(h:Heap),YP w h->(K w.params).In h/\∀T∈[T3,T2,T1],h.get? T=some (PySem.W.tabObj #[]))
  (hK1:∀w:World,(K w.params).lookup T1=none)(hK2:∀w:World,(K w.params).lookup T2=none)(hK3:∀w:World,(K w.params).lookup T3=none)(hC1:∀w:World,PySem.W.codeHdIn (K w.params) c1 T1=true)(hC2:∀w:World,PySem.W.codeHdIn (K w.params) c2 T2=true)(hC3:∀w:World,PySem.W.codeHdIn (K w.params) c3 T3=true)
  (F:∀(w:World)(mg:z0c)(fa:Addr)(h:Heap),(K w.params).In h->h.Ns mainGlobals mg->mg d.name=some (.ref fa) ->
   ∃fd:FuncData,(∀(s:Shared)(u:Value),BindsTo s fd ⟨[u],[]⟩ [("_law_script",u)])/\∀base:Heap,(K w.params).In base->base.Ns mainGlobals mg->uf mg base->bR l.prog w (K w.params) mg base fK 9 fa fd ["_law_script"] (CC (K w.params) T1 T2 T3)) :
  PySem.W.WalkO q loose XP YP l.row.toRowW d [] (λf vs=>PySem.call f vs) :=
 L2.FD (n:=63) (k:=9) (x := "_law_script") (CX:=λ_=>fK) (sp:=λw=>CC (K w.params) T1 T2 T3) hn nofun SX ⟨rfl,nofun,nofun,rfl⟩ hY (λw T hT=>by
  rcases b8.mp hT with e | hT
  .subst e;exact⟨hK3 w,c3,hC3 w⟩
  rcases b8.mp hT with e | hT
  .subst e;exact⟨hK2 w,c2,hC2 w⟩
  rw [bA.mp hT];exact⟨hK1 w,c1,hC1 w⟩) F (λ_ H a ns hl _ hT hS=>⟨a,ns,rfl,hS,hl,⟨⟨#[],hT T1 135,by trivial,.inl rfl⟩,⟨#[],hT T2 135,by trivial,.inl rfl⟩,⟨#[],hT T3 135,by trivial,.inl rfl⟩,Mq,Mp,Mo⟩,λ_=>rfl⟩) λ_ _ _ _ _ z=>z
end g9
set_option maxHeartbeats 0
end
namespace HD
open PySem PySem.W L2
def Ww (P:Params):g9.Top (K P) 129 391 362 272 277 306 572:=⟨nofun,nofun,nofun,nofun,nofun,
 hD 26 25 HD.m1 (nofun),
 hD 36 35 HD.m1 (nofun),
 hD 43 42 HD.m1 (nofun),
 hD 314 313 HD.m8 (nofun),
 hD 319 318 HD.m8 (nofun),
 hD 31 30 HD.m1 (nofun),
 hD 74 73 HD.m3 (nofun),
 hD 81 80 HD.m3 (nofun),
 hD 270 269 HD.m5 (nofun),
 hD 263 262 HD.m5 (nofun),
 hD 258 257 HD.m5 (nofun),
 hD 299 298 HD.m7 (nofun),
 hD 304 303 HD.m7 (nofun),
 hD 402 401 HD.lW (nofun),
 hD 421 420 HD.lW (nofun),
 hD 407 406 HD.lW (nofun),
 hD 414 413 HD.lW (nofun),
 hD 435 434 HD.lW (nofun),
 hD 428 427 HD.lW (nofun),
 hD 440 439 HD.lW (nofun),
 hD 445 444 HD.lW (nofun),
 hD 450 449 HD.lW (nofun),
 hD 457 456 HD.lW (nofun),
 hD 462 461 HD.lW (nofun),
 hD 469 468 HD.lW (nofun),
 hD 474 473 HD.lW (nofun),
 hD 479 478 HD.lW (nofun),
 hD 486 485 HD.lW (nofun),
 hD 491 490 HD.lW (nofun),
 hD 287 286 HD.m6 (nofun),
 hD 292 291 HD.m7 (nofun),
 hC 275 274 HD.m6 (nofun),
 hC 282 281 HD.m6 (nofun),
 hC 309 308 HD.m8 (nofun),
 hM 331 330 HD.m8 (nofun),
 hM 93 92 HD.m3 (nofun),
 hM 100 99 HD.m3 (nofun),
 hM 107 106 HD.m3 (nofun),
 hM 114 113 HD.m3 (nofun),
 hM 119 118 HD.m3 (nofun),
 hM 388 387 HD.m9 (nofun),
 hD 57 56 HD.m2 (nofun),
 hD 50 49 HD.m2 (nofun),
 hD 69 68 HD.m2 (nofun),
 hD 62 61 HD.m2 (nofun),
 ⟨381,.type "function",none,none,#[],.none,.none,.str "wright.grammars" 683,.ref 380,.none,374,⟨.type "tuple",none,.seq #[.none] 0,#[]⟩,0,nofun,nofun,nofun,nofun,rfl,nofun,nofun⟩,nofun,nofun,nofun,nofun,nofun,nofun,nofun,nofun,nofun,nofun,nofun,nofun,nofun,nofun,nofun,nofun,nofun,nofun,nofun,nofun,nofun,nofun,nofun,nofun,nofun,nofun,nofun,nofun,nofun,nofun,nofun,nofun,nofun,nofun,nofun,nofun,nofun,nofun,nofun,nofun,nofun,nofun,nofun,nofun,nofun,nofun,nofun⟩
end HD
theorem PySem.Challenge.cw_wright_k38_places_closed_holds : PySem.Challenge.rw_wright_k38_places_closed.Holds := by
 refine HD.hold ?_ ?hw
 case hw=>w_witness2
 refine g9.walk (l:=PySem.Challenge.rw_wright_k38_places_closed) (K:=HD.K) 272 277 306 274 281 308 nofun nofun nofun rfl HD.ok5 (λw h Y=>⟨PySem.W.km_in_of Y,PySem.W.km_tabs_of Y⟩) (λw=>by kernel_rfl) (λw=>by kernel_rfl) (λw=>by kernel_rfl) (λw=>by kernel_rfl) (λw=>by kernel_rfl) (λw=>by kernel_rfl) ?F;intro w mg fa h KX G SJ;exact g9.all_mk KX G SJ (HD.Ww w.params)
