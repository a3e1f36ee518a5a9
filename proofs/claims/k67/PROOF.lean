import PyProof.Rows.All
import Wide.All
import OpenK.AllK
import Wide.FinOn
import Lean
import PyProof.EqAt
import PyProof.EqKinds
import PyProof.TupleCall
import KE.KNestM
import PyProof.IsiH_list
import PyProof.RaisesAny
import KE.KDictOf
import PyProof.CollectWalk
import PyProof.CompFree
import KE.KDictList
import PyProof.NeKinds
import PyProof.ConsumeWalk
import PyProof.StrBlockI
import PyProof.EnumFor
import PyProof.TupleIter
import PyProof.EnumMake
import KE.KLam
import PyProof.DictUpdate
import PyProof.SeqI3
import PyProof.DictWalks
import PyProof.ConsumeS
import PyProof.Rows.CallKwBuiltin
import KE.KDictLaws
import PyProof.AutoListH
import PyProof.ZipIter
import PyProof.ListNew
import KE.KRevSl
import PyProof.StrOps
import PyProof.StrOps2
import KE.KSortKey
import PyProof.Rows.SetFrom
import PySem.Challenge.RW_wright_k67_trees_of_deeds
set_option Elab.async false
set_option linter.all false
set_option maxRecDepth 100000
local macro_rules | `(tactic| omega) => `(tactic| first | lia | omega (config := {}))
local macro_rules | `(∅) => `(by omega)
local macro_rules | `(nofun) => `(by first | decide +kernel | kernel_rfl)
def bB:=@Or.inl
abbrev a8:=PySem.W.Frag
def rM:0<=PySem.sizeLine:=by decide
def xE:1<=PySem.sizeLine:=by decide
def oK:2<=PySem.sizeLine:=by decide
def KW:3<=PySem.sizeLine:=by decide
def zl4:4<=PySem.sizeLine:=by decide
def av.{u,v}:=@List.length_map.{u,v}
def bj.{u}:=@List.getElem?_eq_some_iff.{u}
def aq:=@PySem.wpAny_bind
def bH:=@PySem.Heap.get?_push_of_some
def bp.{u}:=@List.length_append.{u}
def bo.{u,v}:=@List.getElem?_map.{u,v}
def cg.{u,v}:=@Option.map_eq_some_iff.{u,v}
def b8.{u}:=@List.mem_of_getElem?.{u}
def aH:=@PySem.wpAny_pure
def bG.{u,v}:=@List.map_append.{u,v}
def b_.{u}:=@List.getElem?_eq_getElem.{u}
def aD:=@Nat.le_refl
def bC.{u}:=@List.mem_singleton.{u}
def bO.{u}:=@List.size_toArray.{u}
def a_:=@PySem.Paired.length
def cA:=@PySem.Heap.get?_push_size
def cW.{u}:=@List.mem_cons_of_mem.{u}
def cJ.{u}:=@List.mem_cons_self.{u}
def bN:=@decide_eq_true
def bu:=@PySem.Heap.lt_size
def c_:=@Bool.false_ne_true
def cQ.{u}:=@List.take_add_one.{u}
def b9:=@PySem.PassesOwn.never
def bE:=@Nat.ne_of_lt
def cq.{u}:=@List.mem_append.{u}
def cP.{u}:=@List.take_length.{u}
def d_.{u}:=@List.length_singleton.{u}
def ax.{u}:=@if_pos.{u}
def aw.{u}:=@if_neg.{u}
def bY.{u}:=@List.mem_cons.{u}
def dA:=@of_decide_eq_true
def cV:=@decide_eq_false
def f_:=@PySem.F.plainAttrs_list
def gL:=@PySem.F.type_list_append
def gK:=@PySem.F.slot_list_append
def fU.{u}:=@List.mem_append_right.{u}
def dD.{u}:=@List.length_take.{u}
def fk:=@Bool.and_eq_true_iff
def cO.{u,v}:=@List.map_cons.{u,v}
def cy.{u,v}:=@List.mem_map.{u,v}
def dS.{u}:=@List.length_cons.{u}
def dJ:=@PySem.boot_len
def gu:=@Nat.lt_of_lt_of_le
def ka:=@PyProof.Rows.boot_isinstance
def gY:=@PySem.W.mg_none_of
def ix.{u}:=@List.getElem?_of_mem.{u}
def dI:=@Nat.le_trans
def gJ:=@Int.toNat_natCast
def gr.{u}:=@List.all_eq_true.{u}
def gI:=@PySem.wpAny_newObj_type
def iH.{u}:=@List.mem_append_left.{u}
def ny:=@PyProof.Rows.slot_tuple_getitem
def iG.{u}:=@Array.length_toList.{u}
def dC:=@PySem.wpAny_mono
def lX.{u}:=@Option.isSome_iff_exists.{u}
def nv.{u}:=@List.getElem?_append_right.{u}
def nu.{u}:=@List.getD_eq_getElem?_getD.{u}
def qe.{u}:=@List.take_append_of_le_length.{u}
def iw.{u}:=@Option.some.inj.{u}
def iu.{u}:=@List.append_nil.{u}
def fj:=@Nat.zero_le
def j_.{u,v}:=@List.mem_map_of_mem.{u,v}
def kN.{u}:=@beq_eq_false_iff_ne.{u}
def iX.{u}:=@List.length_nil.{u}
def nr:=@PySem.wpAny_callSpecial?_slot
def j9.{u}:=@List.nodup_append.{u}
def qd.{u}:=@List.getElem?_append_left.{u}
def lW:=@PySem.Around.under_plainId
def j8:=@Nat.lt_succ_self
def qc:=@PyProof.Rows.boot_tuple
def j7:=@PySem.wpAny_call_entry
def gX:=@PySem.Paired.snoc
def qb.{u}:=@List.getElem?_eq_none.{u}
def lV.{u}:=@List.append_assoc.{u}
def iW:=@PySem.wpAny_holding
def iV.{u,v,w}:=@List.map_map.{u,v,w}
def j6:=@PySem.Heap.size_push
def ir:=@PySem.wpAny_field
def nq:=@PySem.wpAny_Call_Name_kw
def kM:=@PySem.codeAny_builtin
def qX.{u}:=@List.take_of_length_le.{u}
def qa.{u,v}:=@List.flatMap_append.{u,v}
def kK.{u}:=@List.nodup_nil.{u}
def j5:=@Bool.true_and
def lU.{u}:=@List.mem_filter.{u}
def qW.{u}:=@Array.getElem?_toList.{u}
def nj:=@PySem.wpAny_truthy_bool
def qV.{u}:=@List.mem_of_mem_take.{u}
def qU.{u}:=@List.mem_iff_getElem.{u}
def qT:=@PySem.Heap.get?_update_self
def j4:=@Nat.ne_of_gt
def jZ:=@Int.zero_add
def p_:=@PySem.Calls.spliced_cons
def pZ:=@Nat.lt_succ_of_lt
def xD:=@PyProof.Rows.callWith_type1
def ni.{u}:=@List.nodup_cons.{u}
def qS.{u}:=@List.length_reverse.{u}
def ng:=@Bool.eq_iff_iff
def jY:=@PySem.wpAny_typeOf
def pY.{u}:=@List.getElem_mem.{u}
def kT:=@Bool.and_eq_true
def mD:=@PySem.Heap.SameBut.update
def jD:=@List.mem_range
def pb.{u}:=@List.dropLast_concat.{u}
def i9:=@PySem.plainId_quiet
def mC.{u}:=@List.reverse_cons.{u}
def kR.{u}:=@List.nil_append.{u}
def mz:=@List.length_range
def rL.{u}:=@List.getElem?_take_of_lt.{u}
def i8:=@Nat.le_of_lt
def jC:=@Nat.lt_irrefl
def rK.{u}:=@List.length_eq_zero_iff.{u}
def rJ.{u}:=@List.getLast?_singleton.{u}
def mx:=@PySem.wpAny_pyIter_list
def mw.{u}:=@List.length_drop.{u}
def o_.{u,v}:=@List.map_singleton.{u,v}
def o9.{u}:=@List.filter_append.{u}
def jB:=@Nat.lt_trans
def i7:=@Nat.le_succ
def rH.{u}:=@List.length_filter_le.{u}
def il:=@PySem.wpAny_rule
def o8.{u,v}:=@Option.isSome_map.{u,v}
def kQ.{u}:=@List.sum_cons.{u}
def rG:=@PySem.Calls.callWith_builtin
def o7:=@PySem.tupleKind_room_in1
def o6:=@PySem.Obj.data_mapFields
def rF.{u}:=@List.getLast?_append.{u}
def mv:=@PySem.wpAny_passesOwn
def jA:=@PySem.codeAny_mono
def o5.{u}:=@beq_self_eq_true.{u}
def oZ.{u,v}:=@List.getElem_map.{u,v}
def oY:=@PySem.wpAny_setState_of
def rE:=@PySem.mem_of_lookup
def fq.{u}:=@Ne.symm.{u}
def rD.{u,v}:=@List.filterMap_cons.{u,v}
def oX:=@PySem.Calls.spliced_nil
def vQ:=@PySem.F.slot_tuple_iterator_next
def mr:=@PySem.wpAny_seqItems
def rC:=@Nat.lt_of_le_of_lt
def oW.{u}:=@List.find?_cons.{u}
def oV:=@PySem.wpAny_askSetting
def vP:=@PySem.F.slot_list_getattribute
def kP:=@PySem.F.called_set
def vO.{u}:=@Array.getElem?_eq_none.{u}
def rB:=@Bool.eq_false_iff
def oU.{u}:=@List.take_zero.{u}
def oS:=@Bool.and_false
def rA:=@PySem.wpAny_setField_rec
def vN:=@PySem.wpAny_loadPart'
def mq:=@Nat.sub_zero
def vM.{u}:=@List.take_append_drop.{u}
def mn.{u,v}:=@List.map_nil.{u,v}
def vL.{u}:=@List.getElem?_reverse.{u}
def rq.{u}:=@List.not_mem_nil.{u}
def ro.{u,v}:=@List.mem_flatMap.{u,v}
def vK:=@PySem.Heap.get?_update_other
def oR:=@PySem.W.mg_of
def oQ.{u,v}:=@List.map_take.{u,v}
def vJ:=@PySem.wpAny_pyNext_list_end
def vI:=@PySem.builtinLookup_eq_fast
def ml.{u,v}:=@Sum.inr.inj.{u,v}
def rm.{u,v}:=@Option.map_some.{u,v}
def rj:=@Nat.not_lt_zero
def vH:=@PySem.F.slot_enumerate_next
def vG.{u}:=@Array.toList_append.{u}
def rh:=@PySem.wpAny_isInstance
def rg:=@PySem.Around.in1_units
def vF:=@PySem.wpAny_loadName_local
def vE:=@PySem.codeAny_call_builtin
def oP:=@Nat.zero_add
def vC:=@PySem.Calls.evalArgs_plain
def oO:=@PySem.wpAny_attempt
def q_.{u}:=@List.drop_zero.{u}
def q9:=@Bool.false_and
def kO:=@PySem.wpAny_call
def zJ:=@PySem.F.slot_dict_update
def zI:=@PySem.F.args_tuple_add_2
def vB.{u,v}:=@List.foldl_append.{u,v}
def vy.{u,v}:=@List.flatMap_cons.{u,v}
def zH:=@PySem.F.plainAttrs_dict
def zG:=@PySem.F.entry_tuple_add
def q8.{u,v}:=@Prod.mk.injEq.{u,v}
def qZ.{u}:=@List.any_cons.{u}
def oN:=@Int.le_refl
def vx:=@PySem.wpAny_pyIter_tuple
def vw.{u}:=@List.getElem_inj.{u}
def vv.{u}:=@List.filter_cons.{u}
def qY:=@PySem.wpAny_setField
def zF:=@PySem.F.slot_tuple_add
namespace L2
open PySem PySem.Spec PyProof.Rows
abbrev aL:=Sum Int Str
def sN:aL->Value->Bool
 | .inl k,v=>Value.isInt k v
 | .inr x,v=>Value.isStrOf x v
def We (w:World):aL->Int
 | .inl k=>hashInt k
 | .inr x=>hashStr w x
def dw:∀{k:aL}{v:Value},sN k v=true->(∃i t,k=Sum.inl i/\v=Value.int i t)\/(∃x t,k=Sum.inr x/\v=Value.str x t)
 | .inl i,v,h=>by
  obtain⟨t,e⟩:=Value.isInt_shape (k:=i) (v:=v) h;exact .inl ⟨i,t,rfl,e⟩
 | .inr x,v,h=>by
  obtain⟨t,e⟩:=Value.isStrOf_shape (x:=x) (v:=v) h;exact .inr ⟨x,t,rfl,e⟩
def DI (i:Int)(t:Tok):sN (.inl i) (.int i t)=true:=by simp [sN,Value.isInt]
def DG (x:Str)(t:Tok):sN (.inr x) (.str x t)=true:=by simp [sN,Value.isStrOf]
def Nt (a b:Int):decide ((Sum.inl a:aL)=Sum.inl b)=(a == b):=by
 by_cases e:a=b
 .subst e;simp
 have h:¬(Sum.inl a:aL)=Sum.inl b:=λq=>e (Sum.inl.inj q);rw [cV h];exact(kN.mpr e).symm
def Np (a b:Str):decide ((Sum.inr a:aL)=Sum.inr b)=decide (a=b):=by
 by_cases e:a=b
 .subst e;simp
 have h:¬(Sum.inr a:aL)=Sum.inr b:=λq=>e (ml q);rw [cV h,cV e]
def Nr (a:Int)(b:Str):decide ((Sum.inl a:aL)=Sum.inr b)=false:=cV (λq=>nomatch q)
def Nq (a:Str) (b:Int):decide ((Sum.inr a:aL)=Sum.inl b)=false:=cV (λq=>nomatch q)
def bh (prog:Program)(w:World):PySem.KeyKind prog w aL where
 is:=sN
 hash:=We w
 inj:=λv a b ha hb=>by
  rcases dw ha with ⟨i,t,rfl,rfl⟩ | ⟨x,t,rfl,rfl⟩
  .rcases dw hb with ⟨j,u,rfl,e⟩ | ⟨y,u,rfl,e⟩
   .injection e with e1 _;rw [e1]
   exact nomatch e
  rcases dw hb with ⟨j,u,rfl,e⟩ | ⟨y,u,rfl,e⟩
  .exact nomatch e
  injection e with e1 _;rw [e1]
 byValue:=λk v h=>by
  rcases dw h with ⟨i,t,rfl,rfl⟩ | ⟨x,t,rfl,rfl⟩ <;> rfl
 pyHash:=λhv h=>by
  rcases dw hv with ⟨i,t,rfl,rfl⟩ | ⟨x,t,rfl,rfl⟩
  .exact wpAny_pyHash_int h
  exact wpAny_pyHash_str h
 eqBool:=λhu hv h=>by
  rcases dw hu with ⟨i,t,rfl,rfl⟩ | ⟨x,t,rfl,rfl⟩
  .rcases dw hv with ⟨j,u,rfl,rfl⟩ | ⟨y,u,rfl,rfl⟩
   .rw [Nt] at h;exact wpAny_eqBool_int h
   rw [Nr] at h;exact SeqAt.EqAt.int_str i t y u _ _ _ _ h
  rcases dw hv with ⟨j,u,rfl,rfl⟩ | ⟨y,u,rfl,rfl⟩
  .rw [Nq] at h;exact SeqAt.EqAt.str_int x t j u _ _ _ _ h
  rw [Np] at h;exact wpAny_eqBool_str h
 «strs»:=λk x t v h=>by
  rcases dw h with ⟨i,u,rfl,e⟩ | ⟨y,u,rfl,e⟩
  .exact nomatch e
  injection e with e1 _;subst e1;cases v <;> rfl
def yt (prog:Program)(w:World) (i:Int)(t:Tok):(bh prog w).is (.inl i) (.int i t)=true:=DI i t
def yr (prog:Program)(w:World)(x:Str)(t:Tok):(bh prog w).is (.inr x) (.str x t)=true:=DG x t
inductive V where
 | eV | bl (b:Bool) | int (i:Int) | str (x:Str) | Bh (b:Array UInt8) | N6 (b:UInt64) | ref (a:Addr) | ty (n:String)
 deriving DecidableEq
def RelV:V->Value->Prop
 | .eV,u=>u=Value.none
 | .bl b,u=>u=Value.bool b
 | .int i,u=>∃t,u=Value.int i t
 | .str x,u=>∃t,u=Value.str x t
 | .Bh b,u=>∃t,u=Value.bytes b t
 | .N6 b,u=>∃t,u=Value.float b t
 | .ref a,u=>u=Value.ref a
 | .ty n,u=>u=Value.type n
abbrev aY:List V->List Value->Prop:=Paired RelV
theorem aY.length {xs:List V}{us:List Value}(r:aY xs us):xs.length=us.length:=a_ r
theorem aY.get:∀{xs:List V}{us:List Value}{i:Nat}{x:V},aY xs us->xs[i]?=some x->∃u,us[i]?=some u/\RelV x u
 | _,_,_,_,.nil,e=>by simp at e
 | _,_,0,_,.cons r _,e=>by simp at e;subst e;exact⟨_,rfl,r⟩
 | _,_,i+1,x,.cons _ t,e=>by
  obtain⟨u,h1,h2⟩:=aY.get (i:=i) (x:=x) t (by simpa using e);exact⟨u,by simpa using h1,h2⟩
theorem aY.set {x:V}{u:Value}(r:RelV x u):∀{xs:List V}{us:List Value}(i:Nat),aY xs us->aY (xs.set i x) (us.set i u)
 | _,_,_,.nil=>.nil
 | _,_,0,.cons _ t=>.cons r t
 | _,_,i+1,.cons q t=>.cons q (aY.set r i t)
theorem aY.append:∀{xs ys:List V}{us ws:List Value},aY xs us->aY ys ws->aY (xs++ys) (us++ws)
 | _,_,_,_,.nil,s=>s
 | _,_,_,_,.cons r t,s=>.cons r (aY.append t s)
theorem aY.take:∀{xs:List V}{us:List Value}(n:Nat),aY xs us->aY (xs.take n) (us.take n)
 | _,_,0,_=>.nil
 | _,_,_+1,.nil=>.nil
 | _,_,n+1,.cons r t=>.cons r (aY.take n t)
theorem aY.drop:∀{xs:List V}{us:List Value}(n:Nat),aY xs us->aY (xs.drop n) (us.drop n)
 | _,_,0,r=>r
 | _,_,_+1,.nil=>.nil
 | _,_,n+1,.cons _ t=>aY.drop n t
def aY.none_of:∀{xs:List V}{us:List Value}{i:Nat},aY xs us->xs[i]?=none->us[i]?=none:=λ{xs us i} r e=>by
 have h1:=r.length;have h2:xs.length<=i:=List.getElem?_eq_none_iff.mp e;exact List.getElem?_eq_none_iff.mpr ∅
def jW:Option V->Option Value->Prop
 | some v,some u=>RelV v u
 | none,none=>True
 | _,_=>False
def KV {κ:Type}:List (κ×V)->List (κ×Value)->Prop:=Paired λ(p:κ×V)(q:κ×Value)=>p.1=q.1/\RelV p.2 q.2
def kV:aL->V
 | .inl i=>.int i
 | .inr x=>.str x
inductive HO where
 | lst (xs:List V)
 | tup (xs:List V)
 | dK (kvs:List (aL×V)) | dT (kvs:List (List aL×V))
 | set (S:Int->Bool) (n:Nat)
 | ins (C dx:Addr)(fs:List (Str×V))
 | own (x:Addr)
 | xd (fs:List (Str×V))
 | met (f x:Addr)
 | C8 (lo hi:Int)
 | kx (o:Obj)(u:HO)
 | t_ (ps:Array Value)
 | ext (φ:Heap->Prop)
abbrev Hp:=Addr->Option HO
def upd (H:Hp)(a:Addr)(o:HO):Hp:=λb=>if b=a then some o else H b
def ae {H:Hp}{a:Addr}{o:HO}:upd H a o a=some o:=by unfold upd;rw [ax rfl]
def ai {H:Hp}{a b:Addr}{o:HO}(h:b≠a):upd H a o b=H b:=by unfold upd;rw [aw h]
def nF {H:Hp}{a:Addr}{o u:HO}:upd (upd H a o) a u=upd H a u:=by
 funext b;unfold upd;split <;> rfl
def Qz {H:Hp}{a b:Addr}{o u:HO}(h:H a=some o)(h':H b=some u)(d:o≠u):a≠b:=by
 intro e;subst e;rw [h] at h';exact d (iw h')
def az {H:Hp}{a b:Addr}{o:HO}(h:H a=some o)(h':H b=none):a≠b:=by
 intro e;subst e;rw [h] at h';cases h'
section
variable (P:Program)(w:World)
def cM (H:Hp)(h:Heap)(a:Addr):HO->Prop
 | .lst xs=>xs.length<=sizeLine/\∃(aN:List Value) (n:Nat),aY xs aN/\h.get? a=some { cls:=.type "list",data:=.seq aN.toArray n }
 | .tup xs=>xs.length<=sizeLine/\∃aN:List Value,aY xs aN/\IsTup h a aN.toArray
 | .dK kvs=>kvs.length<=sizeLine/\(a == sysModules)=false/\∃vs,KV kvs vs/\h.DictOf (bh P w) a vs
 | .dT kvs=>kvs.length<=sizeLine/\(a == sysModules)=false/\∃xs:List (List aL×Addr×Value),
   Paired (λ(p:List aL×V)(q:List aL×Addr×Value)=>p.1=q.1/\H q.2.1=some (.tup (p.1.map kV))/\RelV p.2 q.2.2) kvs xs /\
   ∃o es ep,h.get? a=some o/\o.ExactDict/\o.data=.dict es ep/\es.toList=xs.map (entryOfKey (tupleKind (bh P w)))/\(xs.map (·.1)).Nodup
 | .set S n=>h.SetOf (intKind P w) a S n
 | .ins C dx fs=>H dx=some (.own a)/\fs.length<=1000/\dx≠a/\h.get? a=some (PySem.W.instObj C dx) /\
   ∃mA,h.Ns1 dx mA/\(∀f,jW (fs.lookup f) (mA f))/\PySem.Within mA (fs.map (·.1))
 | .own _=>∃o,h.get? a=some o
 | .xd fs=>∃mA,h.Ns1 a mA/\∀f,jW (fs.lookup f) (mA f)
 | .C8 lo hi=>∃t u v,h.get? a=some { cls:=.type "range",data:=.fields #[.int lo t,.int hi u,.int 1 v] }
 | .kx o u=>h.get? a=some o/\cM H h a u
 | .t_ ps=>h.get? a=some { cls:=.none,data:=.fields ps }
 | .met f x=>h.get? a=some (PySem.W.methodObj (.ref f) (.ref x))
 | .ext φ=>φ h/\(∃o,h.get? a=some o)/\∀h1 h2:Heap,φ h1->(∀o,h1.get? a=some o->h2.get? a=some o)->φ h2
def mj (H:Hp)(h:Heap):Prop:=∀a o,H a=some o->cM P w H h a o
end
section
variable {P:Program}{w:World}{H H':Hp}{h h':Heap}{a:Addr}{o:HO}
theorem cM.lt (x:cM P w H h a o):a < h.objs.size:=by
 cases o with
 | lst xs=>obtain⟨_,_,_,_,e⟩:=x;exact bu e
 | tup xs=>obtain⟨_,_,_,p⟩:=x;exact p.lt
 | dK kvs=>obtain⟨_,_,_,_,o,_,_,e,_⟩:=x;exact bu e
 | dT kvs=>obtain⟨_,_,_,_,o,_,_,e,_⟩:=x;exact bu e
 | set S n=>obtain⟨o,_,_,_,e,_⟩:=x;exact bu e
 | ins C dx fs=>obtain⟨_,_,_,e,_⟩:=x;exact bu e
 | own y=>obtain⟨_,e⟩:=x;exact bu e
 | xd fs=>obtain⟨_,⟨_,_,_,e,_⟩,_⟩:=x;exact bu e
 | C8 lo hi=>obtain⟨_,_,_,e⟩:=x;exact bu e
 | kx ob u=>obtain⟨e,_⟩:=x;exact bu e
 | t_ ps=>exact bu (show h.get? a=some _ from x)
 | met f y=>exact bu (show h.get? a=some _ from x)
 | ext φ=>obtain⟨_,⟨_,e⟩,_⟩:=x;exact bu e
theorem Paired.eJ {α β:Type}{F G:α->β->Prop}:∀{l₁:List α}{l₂:List β},Paired F l₁ l₂->(∀a b,F a b->G a b)->Paired G l₁ l₂
 | _,_,.nil,_=>.nil
 | _,_,.cons r t,f=>.cons (f _ _ r) (Paired.eJ t f)
def cM.kX (x:cM P w H h a o)(k:∀b u,(b=a\/H b=some (.own a))->h.get? b=some u->h'.get? b=some u)
  (ho:∀b,H b=some (.own a)->H' b=some (.own a))(ht:∀b xs,H b=some (.tup xs)->H' b=some (.tup xs)):cM P w H' h' a o:=by
 induction o with
 | lst xs=>obtain⟨z,aN,n,r,e⟩:=x;exact⟨z,aN,n,r,k _ _ (.inl rfl) e⟩
 | tup xs=>obtain⟨z,aN,r,ob,e,c⟩:=x;exact⟨z,aN,r,ob,k _ _ (.inl rfl) e,c⟩
 | dK kvs=>obtain⟨z,y,vs,r,ob,es,ep,e,c⟩:=x;exact⟨z,y,vs,r,ob,es,ep,k _ _ (.inl rfl) e,c⟩
 | dT kvs =>
  obtain⟨z,y,xs,r,ob,es,ep,e,c⟩:=x;exact⟨z,y,xs,Paired.eJ r λp q z=>⟨z.1,ht _ _ z.2.1,z.2.2⟩,ob,es,ep,k _ _ (.inl rfl) e,c⟩
 | set S n=>obtain⟨ob,es,ep,t,e,c⟩:=x;exact⟨ob,es,ep,t,k _ _ (.inl rfl) e,c⟩
 | ins C dx fs =>
  obtain⟨d,z,ne,e,mA,⟨od,es,ep,e2,c⟩,r⟩:=x;exact⟨ho _ d,z,ne,k _ _ (.inl rfl) e,mA,⟨od,es,ep,k _ _ (.inr d) e2,c⟩,r⟩
 | own y=>obtain⟨ob,e⟩:=x;exact⟨ob,k _ _ (.inl rfl) e⟩
 | xd fs=>obtain⟨mA,⟨od,es,ep,e,c⟩,r⟩:=x;exact⟨mA,⟨od,es,ep,k _ _ (.inl rfl) e,c⟩,r⟩
 | C8 lo hi=>obtain⟨t,u,v,e⟩:=x;exact⟨t,u,v,k _ _ (.inl rfl) e⟩
 | kx ob u ih=>obtain⟨e,q⟩:=x;exact⟨k _ _ (.inl rfl) e,ih q⟩
 | t_ ps =>
  have e:h.get? a=some { cls:=.none,data:=.fields ps }:=x;show h'.get? a=some { cls:=.none,data:=.fields ps };exact k a _ (.inl rfl) e
 | met f y =>
  have e:h.get? a=some (PySem.W.methodObj (.ref f) (.ref y)):=x;show h'.get? a=some (PySem.W.methodObj (.ref f) (.ref y));exact k a _ (.inl rfl) e
 | ext φ=>obtain⟨p,⟨o,e⟩,st⟩:=x;exact⟨st _ _ p λo q=>k _ _ (.inl rfl) q,⟨o,k _ _ (.inl rfl) e⟩,st⟩
theorem mj.lt (x:mj P w H h)(e:H a=some o):a < h.objs.size:=(x a o e).lt
def mj.fresh (x:mj P w H h)(e:h.objs.size<=a):H a=none:=by
 cases q:H a with
 | none=>rfl
 | some u=>exact absurd (gu (x.lt q) e) (jC _)
def mj.kept (x:mj P w H h)(k:∀b u,h.get? b=some u->h'.get? b=some u):mj P w H h':=λa o e =>
 (x a o e).kX (λb u _ q=>k b u q) (λ_ q=>q) λ_ _ q=>q
def mj.laid (x:mj P w H h)(k:∀b u,h.get? b=some u->h'.get? b=some u)(hp:h.objs.size<=a)(new:cM P w (upd H a o) h' a o):mj P w (upd H a o) h':=λb u e=>by
 have hn:=x.fresh hp;by_cases hb:b=a
 .subst hb;rw [ae] at e;cases e;exact new
 rw [ai hb] at e;exact(x b u e).kX (λc v _ q=>k c v q) (λc q=>by rw [ai (az q hn)];exact q) λc xs q=>by rw [ai (az q hn)];exact q
end
def Rd (H:Hp)(a:Addr)(u:HO):Prop:=H a=some u\/∃o,H a=some (.kx o u)
def Rd.of {H:Hp}{a:Addr}{u:HO}(h:H a=some u):Rd H a u:=.inl h
def Rd.ok {P:Program}{w:World}{H:Hp}{h:Heap}{a:Addr}{u:HO}(r:Rd H a u)(x:mj P w H h):cM P w H h a u:=by
 rcases r with r | ⟨o,r⟩
 .exact x a u r
 obtain⟨_,q⟩:=x a _ r;exact q
def SD:Option HO->Prop
 | some (.lst _)=>True
 | some (.dK _)=>True
 | some (.dT _)=>True
 | some (.set _ _)=>True
 | some (.ins _ _ _)=>True
 | some (.ext _)=>True
 | _=>False
section
variable {P:Program}{w:World}{H:Hp}{h h':Heap}{x e:Addr}{o':HO}
def mj.write (ok:mj P w H h)(mu:SD (H x))(he:e=x\/H e=some (.own x))(k:∀b u,b≠e->h.get? b=some u->h'.get? b=some u)(OY:∃u,h'.get? e=some u)
  (new:cM P w (upd H x o') h' x o'):mj P w (upd H x o') h':=λb u q=>by
 have Qu:∀c y,H c=some (.own y)->c≠x:=λc y r z=>by subst z;rw [r] at mu;exact mu
 have VH:∀c xs,H c=some (.tup xs)->c≠x:=λc xs r z=>by subst z;rw [r] at mu;exact mu
 by_cases hb:b=x
 .subst hb;rw [ae] at q;cases q;exact new
 rw [ai hb] at q;by_cases NR:b=e
 .have q':H b=some (.own x):=by
   rcases he with z | z
   .exact absurd (NR.trans z) hb
   rw [NR];exact z
  rw [q] at q';cases q';obtain⟨v,hv⟩:=OY;exact⟨v,by rw [NR];exact hv⟩
 refine(ok b u q).kX (λc v hc r=>k c v ?_ r) (λc r=>by rw [ai (Qu c b r)];exact r) λc xs r=>by rw [ai (VH c xs r)];exact r
 rcases hc with rfl | hc
 .exact NR
 rintro rfl;rcases he with z | z
 .exact Qu c b hc z
 rw [hc] at z;cases z;exact hb rfl
end
structure Un (fs ex:List Addr)(H H':Hp)(h h':Heap):Prop where
 keep:∀b o,h.get? b=some o->H b=none->b∉fs->b∉ex->h'.get? b=some o
 slot:∀b o,h.get? b=some o->H b=none->b∈fs->b∉ex->∃sl,h'.get? b=some { o with slots:=sl }
 free:∀b o,h.get? b=some o->H b=none->b∉ex->H' b=none
 there:∀b o,h.get? b=some o->b∉ex->∃o',h'.get? b=some o'
 pj:∀b xs,H b=some (.tup xs)->H' b=some (.tup xs)
 mT:∀b o u,H b=some (.kx o u)->H' b=some (.kx o u)
 nH:∀b ps,H b=some (.t_ ps)->∃more,H' b=some (.t_ (ps++more))
section
variable {fs IZ ex RT:List Addr}{H H1 H2:Hp}{h h1 h2 h':Heap}{a x e:Addr}{o:HO}
def Un.any (u:Un fs ex H H1 h h1){b:Addr}{ob:Obj}(q:h.get? b=some ob)(n:H b=none)(hx:b∉ex):∃sl,h1.get? b=some { ob with slots:=sl }:=by
 by_cases hb:b∈fs
 .exact u.slot b ob q n hb hx
 exact⟨ob.slots,u.keep b ob q n hb hx⟩
def Un.trans (a:Un fs ex H H1 h h1)(b:Un fs ex H1 H2 h1 h2):Un fs ex H H2 h h2 where
 keep:=λc ob q n hc hx=>b.keep c ob (a.keep c ob q n hc hx) (a.free c ob q n hx) hc hx
 slot:=λc ob q n hc hx=>by
  obtain⟨sl,e1⟩:=a.slot c ob q n hc hx;obtain⟨Vd,e2⟩:=b.slot c _ e1 (a.free c ob q n hx) hc hx;exact⟨Vd,e2⟩
 free:=λc ob q n hx=>by
  obtain⟨o',e1⟩:=a.there c ob q hx;exact b.free c o' e1 (a.free c ob q n hx) hx
 there:=λc ob q hx=>by
  obtain⟨o',e1⟩:=a.there c ob q hx;exact b.there c o' e1 hx
 pj:=λc xs q=>b.pj c xs (a.pj c xs q)
 mT:=λc ob xs q=>b.mT c ob xs (a.mT c ob xs q)
 nH:=λc ps q=>by
  obtain⟨m1,e1⟩:=a.nH c ps q;obtain⟨m2,e2⟩:=b.nH c _ e1;exact⟨m1++m2,by rw [e2,Array.append_assoc]⟩
def Un.kept (k:∀b u,h.get? b=some u->h'.get? b=some u):Un fs ex H H h h' :=
 ⟨λb ob q _ _ _=>k b ob q,λb ob q _ _ _=>⟨ob.slots,k b ob q⟩,λ_ _ _ n _=>n,λb ob q _=>⟨ob,k b ob q⟩,λ_ _ q=>q,λ_ _ _ q=>q,λ_ ps q=>⟨#[],by rw [q];simp⟩⟩
def Un.refl:Un fs ex H H h h:=Un.kept λ_ _ q=>q
def Un.laid (k:∀b u,h.get? b=some u->h'.get? b=some u)(hp:h.objs.size<=a)(hn:H a=none):Un fs ex H (upd H a o) h h' where
 keep:=λb u q _ _ _=>k b u q
 slot:=λb u q _ _ _=>⟨u.slots,k b u q⟩
 free:=λb u q n _=>by rw [ai (bE (gu (bu q) hp))];exact n
 there:=λb u q _=>⟨u,k b u q⟩
 pj:=λb xs q=>by rw [ai (az q hn)];exact q
 mT:=λb u xs q=>by rw [ai (az q hn)];exact q
 nH:=λb ps q=>⟨#[],by rw [ai (az q hn),q];simp⟩
def Un.write (mu:SD (H x))(he:e=x\/H e=some (.own x))(k:∀b u,b≠e->h.get? b=some u->h'.get? b=some u)(OY:∃u,h'.get? e=some u):Un fs ex H (upd H x o) h h':=by
 have hx:∀b,H b=none->b≠x:=λb n z=>by subst z;rw [n] at mu;exact mu
 have hb:∀b,H b=none->b≠e:=λb n z=>by
  subst z;rcases he with r | r
  .exact hx b n r
  rw [n] at r;cases r
 have hm:∀b u,H b=some u->¬SD (some u)->b≠x:=λb u q nm z=>by subst z;rw [q] at mu;exact nm mu
 refine⟨λb u q n _ _=>k b u (hb b n) q,λb u q n _ _=>⟨u.slots,k b u (hb b n) q⟩,λb u q n _=>by rw [ai (hx b n)];exact n,λb u q _=>?_,
  λb xs q=>by rw [ai (hm b _ q λz=>z)];exact q,λb u xs q=>by rw [ai (hm b _ q λz=>z)];exact q,λb ps q=>⟨#[],by rw [ai (hm b _ q λz=>z),q];simp⟩⟩
 by_cases NR:b=e
 .subst NR;exact OY
 exact⟨u,k b u NR q⟩
def Un.mono (u:Un fs ex H H1 h h1)(hs:∀b∈fs,b∈IZ)(hx:∀b∈ex,b∈RT):Un IZ RT H H1 h h1 :=
 ⟨λb ob q n hb he=>u.keep b ob q n (λz=>hb (hs b z)) λz=>he (hx b z),λ_ _ q n _ he=>u.any q n λz=>he (hx _ z),λb ob q n he=>u.free b ob q n λz=>he (hx b z),λb ob q he=>u.there b ob q λz=>he (hx b z),u.pj,u.mT,u.nH⟩
end
def IH (h:Heap)(H:Hp):List Addr:=(List.range h.objs.size).filter λa=>(H a).isSome
def mR (h:Heap)(H:Hp):Heap:=PySem.W.hideAll h (IH h H)
def uV (h:Heap)(H:Hp):(mR h H).objs.size=h.objs.size:=PySem.W.hideAll_size _ _
def yB {h:Heap}{H:Hp}{b:Addr}{o:Obj}(e:h.get? b=some o)(n:H b=none):(mR h H).get? b=some o :=
 PySem.W.hideAll_get _ e λhm=>by
  have q:(H b).isSome=true:=(lU.mp hm).2;rw [n] at q;simp at q
def Cf {h:Heap}{H:Hp}{b:Addr}{o:Obj}(e:(mR h H).get? b=some o):h.get? b=some o/\H b=none:=by
 have e':h.get? b=some o:=PySem.W.of_hideAll (IH h H) e;refine⟨e',?_⟩;cases q:H b with
 | none=>rfl
 | some x =>
  have hm:b∈IH h H:=lU.mpr ⟨jD.mpr (bu e'),by simp [q]⟩;have z:(mR h H).get? b=none:=PySem.W.hideAll_none (IH h H) hm;rw [z] at e;cases e
def KH (g h:Heap)(L:Addr):List (Addr×Obj):=(List.range h.objs.size).filterMap λa=>if a=L\/(g.get? a).isSome=true then none else (h.get? a).map λo=>(a,o)
def rest (g h:Heap)(L d:Addr):List (Addr×Obj):=(KH g h L).filter λp=>decide (p.1≠d)
structure Mod (K:a8)(mg:Str->Option Value)(base:Heap):Prop where
 QV:K.In base
 glob:base.Ns mainGlobals mg
 blt:∃mb,base.Ns builtinsNs mb/\∀x:Str,x ≠ "__name__" -> mb x=bootBuiltins x
 nolimit:base.NoLimit
structure Cx where
 prog:Program
 w:World
 K:a8
 mg:Str->Option Value
 base:Heap
 A:Around
 N:List Str
 s₀:Shared
 H₀:Hp
 env:Env
 outer:List Env
 stack:List Env
 ex:List Addr
 fn:Str->Bool
 calm:Bool
 pn:List (Addr×Obj)
 xe:Value->Shared->Prop
def DY (l:List Env):List Addr:=l.filterMap (·.frame)
abbrev Cx.fs (X:Cx):List Addr:=DY X.outer
def Uy (sc:Scope)(x:Str):Prop:=sc.names.lookup x=some .local\/sc.names.lookup x=some .cell\/sc.names.lookup x=some .free
def Loc (sc:Scope)(x:Str):Prop:=sc.names.lookup x=some .local\/sc.names.lookup x=some .cell
def Look (env:Env)(h:Heap)(m:Str->Option Value)(x:Str)(u:Value):Prop :=
 (env.kindOf x=some .local/\m x=some u)\/((env.kindOf x=some .cell\/env.kindOf x=some .free)/\∃c,env.cells.lookup x=some c/\h.IsCell c (some u))
structure Cx.Ok (X:Cx):Prop where
 mod:Mod X.K X.mg X.base
 kind:X.env.scope.kind=.function
 glob:X.env.globals=mainGlobals
 blt:X.env.builtins=builtinsNs
 above:X.s₀.heap.objs.size<=X.env.locals
 inj:∀x y c,X.env.cells.lookup x=some c->X.env.cells.lookup y=some c->x=y
 has:∀x,(X.env.kindOf x=some .cell\/X.env.kindOf x=some .free)->∃c,X.env.cells.lookup x=some c
 Sk:∀x c,X.fn x=true->X.env.cells.lookup x=some c->X.s₀.heap.objs.size<=c
 hd:X.calm=true->X.A.handled=none
 frames:X.A.frames=some X.stack
 Ta:X.stack=X.outer\/(X.stack=X.env::X.outer/\X.env.frame=some X.env.locals)
 O7:∀b∈X.ex,b≠X.env.locals/\∀x c,X.env.cells.lookup x=some c->c≠b
 bs:∀b o,X.base.get? b=some o->X.s₀.heap.get? b=some o/\X.H₀ b=none
 Jf:X.base.objs.size<=X.s₀.heap.objs.size
 GX:∀b o,X.base.get? b=some o->b∉X.ex
 Ec:∀b∈X.ex,b∉X.fs
 pM:X.s₀.heap.FunFrames X.base X.outer
 LD:∀b∈X.fs,X.H₀ b=none
structure Inv (X:Cx)(ag:List (Addr×Obj))(σ:List (Option V))(H:Hp)(s:Shared):Prop where
 ok:X.Ok
 os:s.os=X.s₀.os
 bare:AllBare s.gens
 base:Un X.fs X.ex X.H₀ H X.s₀.heap s.heap
 loc:∃m,s.heap.Ns X.env.locals m/\∀(i:Nat)(x:Str)(v:V),X.N[i]?=some x->σ[i]?=some (some v)->Uy X.env.scope x->∃u,RelV v u/\Look X.env s.heap m x u
 cell:∀x c,X.env.cells.lookup x=some c->∃v,s.heap.IsCell c v
 free:H X.env.locals=none
 lF:∀x c,X.env.cells.lookup x=some c->H c=none
 pin:∀p∈X.pn++ag,s.heap.get? p.1=some p.2/\H p.1=none/\p.1≠X.env.locals/\p.1∉X.fs/\∀v,p.2.data≠.cell v
 bZ:mj X.prog X.w H s.heap
 len:σ.length=X.N.length
section
variable {X:Cx}{ag:List (Addr×Obj)}{σ:List (Option V)}{H H':Hp}{s:Shared}{h':Heap}
def Cx.Ok.VM (ok:X.Ok){b:Addr}{o:Obj}(e:X.base.get? b=some o):b∉X.fs:=λhb=>by
 have:=(ok.pM.mem hb).1;rw [e] at this;cases this
theorem Inv.bs (I:Inv X ag σ H s):∀b o,X.base.get? b=some o->s.heap.get? b=some o/\H b=none:=λb o e =>
 ⟨I.base.keep b o (I.ok.bs b o e).1 (I.ok.bs b o e).2 (I.ok.VM e) (I.ok.GX b o e),I.base.free b o (I.ok.bs b o e).1 (I.ok.bs b o e).2 (I.ok.GX b o e)⟩
def Inv.bk (I:Inv X ag σ H s):∀b o,X.base.get? b=some o->s.heap.get? b=some o:=λb o e=>(I.bs b o e).1
theorem Inv.mod (I:Inv X ag σ H s):Mod X.K X.mg X.base:=I.ok.mod
def Inv.wX (I:Inv X ag σ H s):X.K.In s.heap:=I.ok.mod.QV.keeps I.bk
theorem Inv.nolimit (I:Inv X ag σ H s):s.heap.NoLimit:=I.ok.mod.nolimit.keeps I.bk
def Inv.fr (I:Inv X ag σ H s):∃m,Fr X.base X.env.locals s.heap m :=
 let ⟨m,hn,_⟩:=I.loc
 ⟨m,hn,I.bk,dI I.ok.Jf I.ok.above⟩
theorem Inv.lt (I:Inv X ag σ H s):X.env.locals < s.heap.objs.size:=let ⟨_,hn,_⟩:=I.loc;hn.lt
def Inv.sz (I:Inv X ag σ H s):X.s₀.heap.objs.size<=s.heap.objs.size:=dI I.ok.above (i8 I.lt)
def Inv.VL (I:Inv X ag σ H s){a:Addr}(h:s.heap.objs.size<=a):a∉X.fs:=λhb=>by
 obtain⟨_,o,ho,_⟩:=I.ok.pM.mem hb;exact absurd (gu (bu ho) (dI I.sz h)) (jC _)
def Inv.Oz (I:Inv X ag σ H s):∀x c,X.env.cells.lookup x=some c->c≠X.env.locals:=λx c e z=>by
 obtain⟨v,o,ho,hd⟩:=I.cell x c e;obtain⟨m,⟨o',es,ep,Hq,DR,_⟩,_⟩:=I.loc;rw [z,Hq] at ho;cases ho;rw [DR] at hd;cases hd
theorem Inv.pM (I:Inv X ag σ H s):s.heap.FunFrames X.base X.outer:=by
 have all:∀(l:List Env),(∀b∈DY l,b∈X.fs)->X.s₀.heap.FunFrames X.base l->s.heap.FunFrames X.base l:=by
  intro l
  induction l with
  | nil=>intro _ _;trivial
  | cons env r ih =>
   intro hs hl;obtain⟨hk,⟨L,o,hf,hn,ho,hd⟩,hr⟩:=hl;have hL:L∈X.fs:=hs L (by unfold DY;rw [rD,hf];exact cJ);obtain⟨sl,e⟩:=I.base.slot L o ho (I.ok.LD L hL) hL λz=>I.ok.Ec L z hL;exact⟨hk,⟨L,_,hf,hn,e,hd⟩,ih (λb hb=>hs b (by unfold DY;rw [rD,hf];exact cW _ hb)) hr⟩
 exact all X.outer (λ_ hb=>hb) I.ok.pM
theorem Inv.stack (I:Inv X ag σ H s):s.heap.FunFrames X.base X.stack:=by
 rcases I.ok.Ta with e | ⟨e,hf⟩
 .rw [e];exact I.pM
 rw [e];obtain⟨m,hn,_⟩:=I.loc;refine .cons (by rw [I.ok.kind];decide) hf hn ?_ I.pM;exact Heap.get?_none_of_le (dI I.ok.Jf I.ok.above)
def Inv.zR (I:Inv X ag σ H s):∀b∈DY X.stack,b∈X.env.locals::X.fs:=λb hb=>by
 rcases I.ok.Ta with e | ⟨e,hf⟩
 .rw [e] at hb;exact cW _ hb
 rw [e] at hb;unfold DY at hb;rw [rD,hf] at hb;exact hb
def Inv.BJ (I:Inv X ag σ H s):∀b∈DY X.stack,H b=none:=λb hb=>by
 rcases bY.mp (I.zR b hb) with e | hb
 .rw [e];exact I.free
 obtain⟨_,o,ho,_⟩:=I.ok.pM.mem hb;exact I.base.free b o ho (I.ok.LD b hb) λz=>I.ok.Ec b z hb
def Inv.step {g':Array GenState}{t':Nat}{d':Drawn}{ch:List Addr}(I:Inv X ag σ H s)
  (IT:∀b∈ch,(b∈X.ex\/X.s₀.heap.objs.size<=b)/\b≠X.env.locals/\(∀x c,X.env.cells.lookup x=some c->c≠b)/\∀p∈X.pn++ag,p.1≠b)
  (keep:∀b o,b≠X.env.locals->b∉X.fs->b∉ch->s.heap.get? b=some o->H b=none->h'.get? b=some o)
  (slot:∀b o,b≠X.env.locals->b∈X.fs->b∉ch->s.heap.get? b=some o->H b=none->∃sl,h'.get? b=some { o with slots:=sl })(free:∀b o,b∉ch->s.heap.get? b=some o->H b=none->H' b=none)
  (there:∀b o,b∉ch->s.heap.get? b=some o->∃o',h'.get? b=some o')
  (pj:∀b xs,H b=some (.tup xs)->H' b=some (.tup xs))(mT:∀b o u,H b=some (.kx o u)->H' b=some (.kx o u))(nH:∀b ps,H b=some (.t_ ps)->∃more,H' b=some (.t_ (ps++more)))
  (ns:∀m,s.heap.Ns X.env.locals m->h'.Ns X.env.locals m)(bZ:mj X.prog X.w H' h')(hg:AllBare g') :
  Inv X ag σ H' { s with heap:=h',gens:=g',drawn:=d',toks:=t' }:=by
 have Zu:∀b o,X.s₀.heap.get? b=some o->b≠X.env.locals:=λb o e=>bE (gu (bu e) I.ok.above);have OP:∀b o,X.s₀.heap.get? b=some o->b∉X.ex->b∉ch:=λb o e hx hb=>by
  rcases (IT b hb).1 with z | z
  .exact hx z
  exact absurd (gu (bu e) z) (jC _)
 have cellK:∀x c,X.env.cells.lookup x=some c->∀v,s.heap.IsCell c v->h'.IsCell c v:=λx c e v ⟨o,ho,hd⟩=>by
  have QA:c∉ch:=λz=>(IT c z).2.2.1 x c e rfl;by_cases hc:c∈X.fs
  .obtain⟨sl,q⟩:=slot c o (I.Oz x c e) hc QA ho (I.lF x c e);exact⟨_,q,hd⟩
  exact⟨o,keep c o (I.Oz x c e) hc QA ho (I.lF x c e),hd⟩
 refine⟨I.ok,I.os,hg,⟨λb o e n hb hx=>?_,λb o e n hb hx=>?_,λb o e n hx=>?_,λb o e hx=>?_,λb xs e=>pj b xs (I.base.pj b xs e),λb o xs e=>mT b o xs (I.base.mT b o xs e),λb ps e=>?_⟩,?_,λx c e=>?_,?_,λx c e=>?_,λp hp=>?_,bZ,I.len⟩
 .exact keep b o (Zu b o e) hb (OP b o e hx) (I.base.keep b o e n hb hx) (I.base.free b o e n hx)
 .obtain⟨sl,e1⟩:=I.base.slot b o e n hb hx;obtain⟨Vd,e2⟩:=slot b _ (Zu b o e) hb (OP b o e hx) e1 (I.base.free b o e n hx);exact⟨Vd,e2⟩
 .obtain⟨o',e1⟩:=I.base.there b o e hx;exact free b o' (OP b o e hx) e1 (I.base.free b o e n hx)
 .obtain⟨o',e1⟩:=I.base.there b o e hx;exact there b o' (OP b o e hx) e1
 .obtain⟨m1,e1⟩:=I.base.nH b ps e;obtain⟨m2,e2⟩:=nH b _ e1;exact⟨m1++m2,by rw [e2,Array.append_assoc]⟩
 .obtain⟨m,hn,hl⟩:=I.loc;refine⟨m,ns m hn,λi x v e1 e2 e3=>?_⟩;obtain⟨u,r,l⟩:=hl i x v e1 e2 e3;refine⟨u,r,?_⟩;rcases l with l | ⟨k,c,e,z⟩
  .exact .inl l
  exact .inr ⟨k,c,e,cellK x c e _ z⟩
 .obtain⟨v,z⟩:=I.cell x c e;exact⟨v,cellK x c e v z⟩
 .obtain⟨m,⟨o,_,_,ho,_⟩,_⟩:=I.loc;exact free _ o (λz=>(IT _ z).2.1 rfl) ho I.free
 .obtain⟨v,o,ho,hd⟩:=I.cell x c e;exact free c o (λz=>(IT c z).2.2.1 x c e rfl) ho (I.lF x c e)
 obtain⟨e,n,ne,nf,d⟩:=I.pin p hp;have QA:p.1∉ch:=λz=>(IT p.1 z).2.2.2 p hp rfl;exact⟨keep p.1 p.2 ne nf QA e n,free p.1 p.2 QA e n,ne,nf,d⟩
def Inv.un {t':Nat}(I:Inv X ag σ H s)(u:Un X.fs [] H H' s.heap h')(bZ:mj X.prog X.w H' h'):Inv X ag σ H' { s with heap:=h',toks:=t' }:=by
 obtain⟨m,⟨o,es,ep,ho,r⟩,_⟩:=id I.loc;obtain⟨sl,hL⟩:=u.any ho I.free (by simp);exact I.step (g':=s.gens) (d':=s.drawn) (ch:=[]) (λ_ z=>nomatch z) (λb o _ hb _ e n=>u.keep b o e n hb (by simp)) (λb o _ hb _ e n=>u.slot b o e n hb (by simp)) (λb o _ e n=>u.free b o e n (by simp)) (λb o _ e=>u.there b o e (by simp)) u.pj u.mT u.nH (λm' hm=>by
  obtain⟨o',ik,XF,Hq,r'⟩:=hm;rw [ho] at Hq;cases Hq;exact⟨_,ik,XF,hL,r'⟩) bZ I.bare
def Inv.call {g':Array GenState}{t':Nat}{d':Drawn}{ch:List Addr}(I:Inv X ag σ H s)(u:Un (DY X.stack) ch H H' s.heap h')(bZ:mj X.prog X.w H' h')(hg:AllBare g')
  (IT:∀b∈ch,(b∈X.ex\/X.s₀.heap.objs.size<=b)/\b≠X.env.locals/\(∀x c,X.env.cells.lookup x=some c->c≠b)/\∀p∈X.pn++ag,p.1≠b) :
  Inv X ag σ H' { s with heap:=h',gens:=g',drawn:=d',toks:=t' }:=by
 obtain⟨m,⟨o,es,ep,ho,r⟩,_⟩:=id I.loc;obtain⟨sl,hL⟩:=u.any ho I.free λz=>(IT _ z).2.1 rfl;exact I.step (ch:=ch) IT (λb o hL hb hc e n=>u.keep b o e n (λz=>(bY.mp (I.zR b z)).elim hL hb) hc) (λb o _ _ hc e n=>u.any e n hc) (λb o hc e n=>u.free b o e n hc) (λb o hc e=>u.there b o e hc) u.pj u.mT u.nH (λm' hm=>by
  obtain⟨o',ik,XF,Hq,r'⟩:=hm;rw [ho] at Hq;cases Hq;exact⟨_,ik,XF,hL,r'⟩) bZ hg
def Inv.turned {t':Nat}{it:Addr}(I:Inv X ag σ H s)(k:∀b o,b≠it->s.heap.get? b=some o->h'.get? b=some o)(hn:H it=none)(hL:it≠X.env.locals)
  (h1:it∈X.ex\/X.s₀.heap.objs.size<=it)(h2:∀x c,X.env.cells.lookup x=some c->c≠it)(h3:∀p∈X.pn++ag,p.1≠it):Inv X ag σ H { s with heap:=h',toks:=t' }:=by
 have Zs:∀b u,H b=some u->b≠it:=λb u e z=>by rw [z,hn] at e;cases e
 refine I.step (g':=s.gens) (d':=s.drawn) (ch:=[it]) (λb hb=>?_) (λb o _ _ hc e _=>k b o (λz=>hc (by simp [z])) e) (λb o _ _ hc e _=>⟨o.slots,k b o (λz=>hc (by simp [z])) e⟩) (λ_ _ _ _ n=>n)
  (λb o hc e=>⟨o,k b o (λz=>hc (by simp [z])) e⟩) (λ_ _ e=>e) (λ_ _ _ e=>e) (λb ps e=>⟨#[],by rw [e];simp⟩) (λm hm=>?_) (λb u e=>?_) I.bare
 .have e:b=it:=by simpa using hb
  subst e;exact⟨h1,hL,h2,h3⟩
 .obtain⟨o,es,ep,ho,r⟩:=hm;exact⟨o,es,ep,k _ o (fq hL) ho,r⟩
 refine(I.bZ b u e).kX (λc v hc q=>k c v ?_ q) (λ_ q=>q) λ_ _ q=>q;rcases hc with z | z
 .rw [z];exact Zs b u e
 exact Zs c _ z
def Inv.tok (I:Inv X ag σ H s) (t:Nat):Inv X ag σ H { s with toks:=t }:=I.un (h':=s.heap) (t':=t) Un.refl I.bZ
theorem Inv.kept {t':Nat}(I:Inv X ag σ H s)(k:∀b u,s.heap.get? b=some u->h'.get? b=some u):Inv X ag σ H { s with heap:=h',toks:=t' }:=I.un (Un.kept k) (I.bZ.kept k)
theorem Inv.laid {a:Addr}{o:HO}{t':Nat}(I:Inv X ag σ H s)(k:∀b u,s.heap.get? b=some u->h'.get? b=some u)(hp:s.heap.objs.size<=a)(new:cM X.prog X.w (upd H a o) h' a o) :
  Inv X ag σ (upd H a o) { s with heap:=h',toks:=t' }:=I.un (Un.laid k hp (I.bZ.fresh hp)) (I.bZ.laid k hp new)
theorem Inv.write {x e:Addr}{o:HO}{t':Nat}(I:Inv X ag σ H s)(mu:SD (H x))(he:e=x\/H e=some (.own x))(k:∀b u,b≠e->s.heap.get? b=some u->h'.get? b=some u)(OY:∃u,h'.get? e=some u)
  (new:cM X.prog X.w (upd H x o) h' x o):Inv X ag σ (upd H x o) { s with heap:=h',toks:=t' }:=I.un (Un.write mu he k OY) (I.bZ.write mu he k OY new)
def Inv.B_ {ki:List (Addr×Obj)}(I:Inv X ag σ H s)(h:∀p∈ki,s.heap.get? p.1=some p.2/\H p.1=none/\p.1≠X.env.locals/\p.1∉X.fs/\∀v,p.2.data≠.cell v):Inv X ki σ H s :=
 ⟨I.ok,I.os,I.bare,I.base,I.loc,I.cell,I.free,I.lF,λp hp=>(cq.mp hp).elim (λz=>I.pin p (iH _ z)) (h p),I.bZ,I.len⟩
def yn {N:List Str}(hN:N.Nodup){i j:Nat}{x:Str}(a:N[i]?=some x)(b:N[j]?=some x):i=j:=by
 obtain⟨h1,e1⟩:=bj.mp a;obtain⟨h2,e2⟩:=bj.mp b;exact(vw hN).mp (e1.trans e2.symm)
def uD {M:Model}{A:Around}{E:Value->Shared->Prop}{i:Nat}{x:Str}{v:V}{u:Value}{Q:Unit->Shared->Prop}(I:Inv X ag σ H s)(hN:X.N.Nodup)(hi:X.N[i]?=some x)(hx:Loc X.env.scope x)(r:RelV v u)
  (h:∀s',Inv X ag (σ.set i (some v)) H s'->(∃a,Heap.SameBut a s.heap s'.heap/\(a=X.env.locals\/X.env.cells.lookup x=some a))->Q () s')(hf:X.fn x=true\/X.env.scope.names.lookup x=some .local:=by first | exact .inl rfl | exact .inr rfl | assumption):wpAny M A (storeName X.env x u) Q E s:=by
 obtain⟨m,hn,hl⟩:=id I.loc;have Xb:(X.env.scope.kind == .class || (X.env.scope.kind == .module && X.env.locals != X.env.globals))=false:=by rw [I.ok.kind];rfl
 have hiσ:i < σ.length:=by rw [I.len];exact(bj.mp hi).1
 have Oz:=I.Oz;have tracked:∀{a:Addr}{h':Heap},(∃o,s.heap.get? a=some o/\H a=none)->Heap.SameBut a s.heap h'->mj X.prog X.w H h':=λ{a h'} ha hs b ob e=>by
  obtain⟨_,_,om⟩:=ha;refine(I.bZ b ob e).kX (λc w' hc q=>(hs.2 c ?_).trans q) (λ_ q=>q) λ_ _ q=>q;rintro rfl;rcases hc with rfl | hc
  .rw [om] at e;cases e
  rw [om] at hc;cases hc
 rcases hx with hk | hk
 .refine wpAny_storeName_local hk hn (λh' Ke hs=>?_) Xb;obtain⟨oL,_,_,Rj,_⟩:=id hn;refine h _ ⟨I.ok,I.os,I.bare,⟨λb o e n hb hx=>?_,λb o e n hb hx=>?_,I.base.free,λb o e hx=>?_,I.base.pj,I.base.mT,I.base.nH⟩,⟨_,Ke,λj y v' e1 e2 e3=>?_⟩,λy c e=>?_,I.free,I.lF,λp hp=>?_,tracked ⟨oL,Rj,I.free⟩ hs,by simpa using I.len⟩ ⟨_,hs,.inl rfl⟩
  .exact(hs.2 b (bE (gu (bu e) I.ok.above))).trans (I.base.keep b o e n hb hx)
  .obtain⟨sl,e1⟩:=I.base.slot b o e n hb hx;exact⟨sl,(hs.2 b (bE (gu (bu e) I.ok.above))).trans e1⟩
  .obtain⟨o',e1⟩:=I.base.there b o e hx;exact⟨o',(hs.2 b (bE (gu (bu e) I.ok.above))).trans e1⟩
  .by_cases hj:j=i
   .subst hj;rw [hi] at e1;cases e1;rw [List.getElem?_set_self hiσ] at e2;cases e2;exact⟨u,r,.inl ⟨hk,by simp⟩⟩
   rw [List.getElem?_set_ne (fq hj)] at e2;obtain⟨u',r',q⟩:=hl j y v' e1 e2 e3;refine⟨u',r',?_⟩;rcases q with ⟨k,e⟩ | ⟨k,c,e,z⟩
   .refine .inl ⟨k,?_⟩;have:y≠x:=λe=>hj (yn hN e1 (e ▸ hi));simp [this,e]
   exact .inr ⟨k,c,e,z.sameBut hs (Oz y c e)⟩
  .obtain⟨w',z⟩:=I.cell y c e;exact⟨w',z.sameBut hs (Oz y c e)⟩
  obtain⟨e,n,ne,nf,d⟩:=I.pin p hp;exact⟨(hs.2 p.1 ne).trans e,n,ne,nf,d⟩
 have W4:X.fn x=true:=by
  rcases hf with z | z
  .exact z
  rw [z] at hk;cases hk
 obtain⟨c,hc⟩:=I.ok.has x (.inl hk);obtain⟨w',z⟩:=I.cell x c hc;refine wpAny_storeName_cell I.ok.kind hk hc z (λh' mS hs=>?_);obtain⟨oc,zx,WQ⟩:=id z;refine h { s with heap:=h' } ⟨I.ok,I.os,I.bare,⟨λb o e n hb hx=>?_,λb o e n hb hx=>?_,I.base.free,λb o e hx=>?_,I.base.pj,I.base.mT,I.base.nH⟩,⟨m,hn.sameBut hs (fq (Oz x c hc)),λj y v' e1 e2 e3=>?_⟩,λy c' e=>?_,I.free,I.lF,λp hp=>?_,tracked ⟨oc,zx,I.lF x c hc⟩ hs,by simpa using I.len⟩ ⟨c,hs,.inr hc⟩
 .exact(hs.2 b (bE (gu (bu e) (I.ok.Sk x c W4 hc)))).trans (I.base.keep b o e n hb hx)
 .obtain⟨sl,e1⟩:=I.base.slot b o e n hb hx;exact⟨sl,(hs.2 b (bE (gu (bu e) (I.ok.Sk x c W4 hc)))).trans e1⟩
 .obtain⟨o',e1⟩:=I.base.there b o e hx;exact⟨o',(hs.2 b (bE (gu (bu e) (I.ok.Sk x c W4 hc)))).trans e1⟩
 .by_cases hj:j=i
  .subst hj;rw [hi] at e1;cases e1;rw [List.getElem?_set_self hiσ] at e2;cases e2;exact⟨u,r,.inr ⟨.inl hk,c,hc,mS⟩⟩
  rw [List.getElem?_set_ne (fq hj)] at e2;obtain⟨u',r',q⟩:=hl j y v' e1 e2 e3;refine⟨u',r',?_⟩;rcases q with q | ⟨k,c',e,z'⟩
  .exact .inl q
  refine .inr ⟨k,c',e,z'.sameBut hs ?_⟩;rintro rfl;exact hj (yn hN e1 (I.ok.inj _ _ _ e hc ▸ hi))
 .by_cases hcc:c'=c
  .subst hcc;exact⟨_,mS⟩
  obtain⟨w2,z2⟩:=I.cell y c' e;exact⟨w2,z2.sameBut hs hcc⟩
 obtain⟨e,n,ne,nf,d⟩:=I.pin p hp;refine⟨(hs.2 p.1 ?_).trans e,n,ne,nf,d⟩;intro q;rw [q,zx] at e;have q':oc=p.2:=iw e;exact d w' (by rw [<-q'];exact WQ)
def rQ {M:Model}{A:Around}{E:Value->Shared->Prop}{i:Nat}{x:Str}{v:V}{u:Value}{Q:Unit->Shared->Prop}(I:Inv X ag σ H s)(hN:X.N.Nodup)(hi:X.N[i]?=some x)(hx:Loc X.env.scope x)(r:RelV v u)
  (h:∀s',Inv X ag (σ.set i (some v)) H s'->Q () s')(hf:X.fn x=true\/X.env.scope.names.lookup x=some .local:=by first | exact .inl rfl | exact .inr rfl | assumption):wpAny M A (storeName X.env x u) Q E s :=
 uD I hN hi hx r (λs' I' _=>h s' I') hf
def Inv.LS {s':Shared}{ch:List Addr}(I:Inv X ag σ H s)(ho:s'.os=s.os)(u:Un (DY X.stack) ch H H' s.heap s'.heap)(bZ:mj X.prog X.w H' s'.heap)(hg:AllBare s'.gens)
  (IT:∀b∈ch,(b∈X.ex\/X.s₀.heap.objs.size<=b)/\b≠X.env.locals/\(∀x c,X.env.cells.lookup x=some c->c≠b)/\∀p∈X.pn++ag,p.1≠b):Inv X ag σ H' s':=by
 obtain⟨h',g',d',t',o'⟩:=s';have e:o'=s.os:=ho;subst e;exact I.call (g':=g') (t':=t') (d':=d') u bZ hg IT
end
abbrev XK:=Value->Option Addr->Hp->Prop
abbrev St:=List (Option V)
abbrev aM (a:Addr):Option V:=some (.ref a)
abbrev VK:=V->Hp->Prop
abbrev TE:=St->Hp->VK->Prop
abbrev TT:=St->Hp->(Bool->Hp->Prop)->Prop
abbrev TA:=St->Hp->(List V->Hp->Prop)->Prop
structure Ends where
 nx:St->Hp->Prop
 rt:VK
 bk:St->Hp->Prop:=λ_ _=>False
 ct:St->Hp->Prop:=λ_ _=>False
abbrev TS:=Ends->St->Hp->Prop
def EP (X:Cx)(ag:List (Addr×Obj))(σ:St)(Q:VK)(u:Value)(s':Shared):Prop:=∃v H',Inv X ag σ H' s'/\RelV v u/\Q v H'
def TP (X:Cx)(ag:List (Addr×Obj))(σ:St)(Q:Bool->Hp->Prop)(b:Bool)(s':Shared):Prop:=∃H',Inv X ag σ H' s'/\Q b H'
def AP (X:Cx)(ag:List (Addr×Obj))(σ:St)(Q:List V->Hp->Prop)(us:List Value)(s':Shared):Prop:=∃vs H',Inv X ag σ H' s'/\aY vs us/\Q vs H'
def SP (X:Cx)(ag:List (Addr×Obj))(D:Ends)(f:Flow)(s':Shared):Prop :=
 match f with
 | .next=>∃σ' H',Inv X ag σ' H' s'/\D.nx σ' H'
 | .brk=>∃σ' H',Inv X ag σ' H' s'/\D.bk σ' H'
 | .cont=>∃σ' H',Inv X ag σ' H' s'/\D.ct σ' H'
 | .ret u=>∃v σ' H',Inv X ag σ' H' s'/\RelV v u/\D.rt v H'
def PE (X:Cx)(e:Expr)(t:TE):Prop :=
 ∀(ag:List (Addr×Obj))(s:Shared)(σ:St)(H:Hp)(Q:VK),Inv X ag σ H s->t σ H Q->wpAny (model X.prog X.w) X.A (eval e X.env) (EP X ag σ Q) X.xe s
def PT (X:Cx)(e:Expr)(t:TT):Prop :=
 ∀(ag:List (Addr×Obj))(s:Shared)(σ:St)(H:Hp)(Q:Bool->Hp->Prop),Inv X ag σ H s->t σ H Q->wpAny (model X.prog X.w) X.A (isTrue e X.env (eval e X.env)) (TP X ag σ Q) X.xe s
def PW (X:Cx)(e:Expr)(t:TT):Prop :=
 ∀(whole:Sem Value)(ag:List (Addr×Obj))(s:Shared)(σ:St)(H:Hp)(Q:Bool->Hp->Prop),Inv X ag σ H s->t σ H Q->wpAny (model X.prog X.w) X.A (isTrue e X.env whole) (TP X ag σ Q) X.xe s
def PW.pt {X:Cx}{e:Expr}{t:TT}(h:PW X e t):PT X e t:=h _
def PA (X:Cx)(es:List Expr)(t:TA):Prop :=
 ∀(pos:Pos)(ag:List (Addr×Obj))(s:Shared)(σ:St)(H:Hp)(Q:List V->Hp->Prop),Inv X ag σ H s->t σ H Q->wpAny (model X.prog X.w) X.A (spliced (backTo pos (starEach es X.env))) (AP X ag σ Q) X.xe s
def PS (X:Cx)(st:Stmt)(t:TS):Prop :=
 ∀(ag:List (Addr×Obj))(s:Shared)(σ:St)(H:Hp)(D:Ends),Inv X ag σ H s->t D σ H->wpAny (model X.prog X.w) X.A (exec st X.env) (SP X ag D) X.xe s
def Bm (X:Cx)(st:List Stmt)(t:TS):Prop :=
 ∀(ag:List (Addr×Obj))(s:Shared)(σ:St)(H:Hp)(D:Ends),Inv X ag σ H s->t D σ H->wpAny (model X.prog X.w) X.A (execs st X.env) (SP X ag D) X.xe s
def cX {α:Type}{t:Sem α}{Q Q':α->Shared->Prop}{M:Model}{A:Around}{E:Value->Shared->Prop}{s:Shared}(h:wpAny M A t Q E s)(hQ:∀a s,Q a s->Q' a s):wpAny M A t Q' E s:=dC h hQ λ_ _ x=>x
section
variable {X:Cx}
def bin {a b:Expr}{ta tb:TE}(ha:PE X a ta)(hb:PE X b tb){ag:List (Addr×Obj)}{s:Shared}{σ:St}{H:Hp}{R:V->V->Hp->Prop}(I:Inv X ag σ H s)(h:ta σ H λx H1=>tb σ H1 λy H2=>R x y H2)
  {α:Type}{Q:α->Shared->Prop}{f:Value->Value->Sem α}
  (hf:∀v u s2 x y H2,Inv X ag σ H2 s2->RelV x v->RelV y u->R x y H2->wpAny (model X.prog X.w) X.A (f v u) Q X.xe s2) :
  wpAny (model X.prog X.w) X.A (eval a X.env) (λv s₁=>wpAny (model X.prog X.w) X.A (eval b X.env) (λu s₂=>wpAny (model X.prog X.w) X.A (f v u) Q X.xe s₂) X.xe s₁) X.xe s:=by
 refine cX (ha ag s σ H _ I h) λv s1 bx=>?_;obtain⟨x,H1,I1,r1,q1⟩:=bx;refine cX (hb ag s1 σ H1 _ I1 q1) λu s2 bx=>?_;obtain⟨y,H2,I2,r2,q2⟩:=bx;exact hf v u s2 x y H2 I2 r1 r2 q2
inductive Su (o:Option (Option V))(R:V->Prop):Prop
 | mk (v:V)(e:o=some (some v))(q:R v):Su o R
inductive XB (x:V)(R:Bool->Prop):Prop
 | mk (c:Bool)(e:x=.bl c)(q:R c):XB x R
inductive XI1 (x:V)(R:Int->Prop):Prop
 | mk (i:Int)(e:x=.int i)(q:R i):XI1 x R
inductive XI0 (x y:V)(R:Int->Int->Prop):Prop
 | mk (i j:Int)(e:x=.int i)(e2:y=.int j)(q:R i j):XI0 x y R
inductive XI2 (x y:V)(C:Int->Int->Prop)(R:Int->Int->Prop):Prop
 | mk (i j:Int)(e:x=.int i)(e2:y=.int j)(c:C i j)(q:R i j):XI2 x y C R
inductive LY (vs:List V)(R:V->List V->Prop):Prop
 | mk (v:V)(r:List V)(e:vs=v::r)(q:R v r):LY vs R
inductive Sv (v:V)(S:Addr->List V->Prop) (n:Nat)(R:List V->Prop):Prop
 | mk (a:Addr)(xs:List V)(e:v=.ref a)(s:S a xs)(l:xs.length=n)(q:R xs):Sv v S n R
inductive Yz (x:V)(S:Addr->Prop)(R:Addr->Prop):Prop
 | mk (a:Addr)(e:x=.ref a)(s:S a)(q:R a):Yz x S R
inductive Sw (xs:List V)(S:Addr->List V->Prop)(R:List V->Prop):Prop
 | mk (p:Addr)(ys:List V)(e:xs=[.ref p])(s:S p ys)(q:R ys):Sw xs S R
def gE (i:Nat):TE:=λσ H Q=>Su σ[i]? λv=>Q v H
def tC (v:V):TE:=λ_ H Q=>Q v H
def MY {i:Nat}{x:Str}{pos:Pos}(hN:X.N[i]?=some x)(hv:Uy X.env.scope x)(hd:(x == ("__debug__":Str))=false:=by decide)(w6:(x == ("__classdict__":Str))=false:=by decide):PE X (.Name x pos) (gE i):=by
 intro ag s σ H Q I h;obtain⟨v,e,h⟩:=h;obtain⟨m,hn,hl⟩:=I.loc;obtain⟨u,r,l⟩:=hl i x v hN e hv;have fin:EP X ag σ Q u s:=⟨v,H,I,r,h⟩;rcases l with ⟨hk,hm⟩ | ⟨hk,c,hc,jr⟩
 .exact wpAny_Name (vF I.ok.kind hk hn hm fin) hd
 rcases hk with hk | hk
 .exact wpAny_Name (wpAny_loadName_cell I.ok.kind hk hc jr fin) hd
 exact wpAny_Name (wpAny_loadName_free I.ok.kind hk hc jr fin w6) hd
def ar {i j pos}:PE X (.Constant (.int i) j pos) (tC (.int i)):=λ_ _ _ H _ I h=>wpAny_Constant_int ⟨.int i,H,I.tok _,⟨_,rfl⟩,h⟩
def dW {b j pos}:PE X (.Constant (.bool b) j pos) (tC (.bl b)):=λ_ _ _ H _ I h=>Constant_bool ⟨.bl b,H,I,rfl,h⟩
def Am {j pos}:PE X (.Constant .none j pos) (tC .eV):=λ_ _ _ H _ I h=>Constant_none ⟨.eV,H,I,rfl,h⟩
def cD {x j pos}:PE X (.Constant (.str x) j pos) (tC (.str x)):=λ_ _ _ H _ I h=>Calls.Constant_str ⟨.str x,H,I.tok _,⟨_,rfl⟩,h⟩
def Gl (X:Cx)(x:Str):Prop:=X.env.kindOf x=some .globalImplicit
def wV {E:Value->Shared->Prop}{ag:List (Addr×Obj)}{s:Shared}{σ:St}{H:Hp}{x:Str}{u:Value}{pos:Pos}{Q:Value->Shared->Prop}(I:Inv X ag σ H s)(hg:Gl X x)(hm:X.mg x=some u)(h:Q u s)
  (hd:(x == ("__debug__":Str))=false:=by decide):wpAny (model X.prog X.w) X.A (eval (.Name x pos) X.env) Q E s :=
 Calls.Name_function_global I.ok.kind hg (Calls.loadGlobal_global (by rw [I.ok.glob];exact I.mod.glob.keeps I.bk) hm h) hd
def iQ {E:Value->Shared->Prop}{ag:List (Addr×Obj)}{s:Shared}{σ:St}{H:Hp}{x:Str}{u:Value}{pos:Pos}{Q:Value->Shared->Prop}(I:Inv X ag σ H s)(hg:Gl X x)(hm:X.mg x=none)(hv:bootBuiltins x=some u)(h:Q u s)
  (hn:x ≠ "__name__" := by decide)(hd:(x == ("__debug__":Str))=false:=by decide):wpAny (model X.prog X.w) X.A (eval (.Name x pos) X.env) Q E s:=by
 obtain⟨mb,h1,h2⟩:=I.mod.blt;exact Calls.Name_function_global I.ok.kind hg (Calls.loadGlobal_builtin (by rw [I.ok.glob];exact I.mod.glob.keeps I.bk) hm (by rw [I.ok.blt];exact h1.keeps I.bk) ((h2 x hn).trans hv) h) hd
def JH {x:Str}{v:V}{u:Value}{pos:Pos}(hg:Gl X x)(hm:X.mg x=some u)(r:RelV v u)(hd:(x == ("__debug__":Str))=false:=by decide):PE X (.Name x pos) (tC v) :=
 λ_ _ _ H _ I h=>wV I hg hm ⟨v,H,I,r,h⟩ hd
def gi {x:Str}{v:V}{u:Value}{pos:Pos}(hg:Gl X x)(hm:X.mg x=none)(hv:bootBuiltins x=some u)(r:RelV v u)(hn:x ≠ "__name__" := by decide)(hd:(x == ("__debug__":Str))=false:=by decide):PE X (.Name x pos) (tC v) :=
 λ_ _ _ H _ I h=>iQ I hg hm hv ⟨v,H,I,r,h⟩ hn hd
variable {a b:Expr}{ta tb:TE}{pos:Pos}
def PC (X:Cx)(op:CmpOp)(a b:Expr)(t:TE):Prop :=
 ∀(ag:List (Addr×Obj))(s:Shared)(σ:St)(H:Hp)(Q:VK),Inv X ag σ H s->t σ H Q ->
  wpAny (model X.prog X.w) X.A (eval a X.env) (λv s₁=>wpAny (model X.prog X.w) X.A (eval b X.env) (λu s₂=>wpAny (model X.prog X.w) X.A (compareOp op v u) (EP X ag σ Q) X.xe s₂) X.xe s₁) X.xe s
def yo (b:Expr){op:CmpOp}(h:op≠.In)(h2:op≠.NotIn):behindInMarks op b=false:=by
 have e1:(op == CmpOp.In)=false:=by cases op <;> first | rfl | exact absurd rfl h
 have e2:(op == CmpOp.NotIn)=false:=by cases op <;> first | rfl | exact absurd rfl h2
 cases b <;> simp [behindInMarks,e1,e2]
def U5 (ta:TE):TE:=λσ H Q=>ta σ H λx H1=>Q (.bl (decide (x=.eV))) H1
def PM (ta:TE):TE:=λσ H Q=>ta σ H λx H1=>Q (.bl (!decide (x=.eV))) H1
def RelV.ym {x:V}{v:Value}(r:RelV x v):(v == Value.none)=decide (x=.eV):=by
 cases x with
 | eV=>cases r;rfl
 | bl _=>cases r;rfl
 | int _=>obtain⟨t,rfl⟩:=r;rfl
 | str _=>obtain⟨t,rfl⟩:=r;rfl
 | Bh _=>obtain⟨t,rfl⟩:=r;rfl
 | N6 _=>obtain⟨t,rfl⟩:=r;rfl
 | ref _=>cases r;rfl
 | ty _=>cases r;rfl
def Ao {j pos'}(ha:PE X a ta):PC X .Is a (.Constant .none j pos') (U5 ta):=by
 intro ag s σ H Q I h;refine cX (ha ag s σ H _ I h) λv s1 bx=>?_;obtain⟨x,H1,I1,r1,q1⟩:=bx;exact Constant_none (is_none_gen ⟨.bl _,H1,I1,by rw [r1.ym];rfl,q1⟩)
def wI {j pos'}(ha:PE X a ta):PC X .IsNot a (.Constant .none j pos') (PM ta):=by
 intro ag s σ H Q I h;refine cX (ha ag s σ H _ I h) λv s1 bx=>?_;obtain⟨x,H1,I1,r1,q1⟩:=bx;exact Constant_none (isnot_none_gen ⟨.bl _,H1,I1,by rw [r1.ym];rfl,q1⟩)
def tB (t:TE):TT:=λσ H Q=>t σ H λx H1=>XB x λc=>Q c H1
def sG {op:CmpOp}{t:TE}(h:PC X op a b t)(h1:behindInMarks op b=false:=by first | exact yo _ nofun nofun | rfl):PE X (.Compare a [op] [b] pos) t:=λag s σ H Q I hw=>wpAny_Compare1 (h ag s σ H Q I hw) h1
def dH {op:CmpOp}{t:TE}(h:PC X op a b t)(h1:behindInMarks op b=false:=by first | exact yo _ nofun nofun | rfl):PT X (.Compare a [op] [b] pos) (tB t):=by
 intro ag s σ H Q I hw;refine wpAny_isTrue_Compare1 (cX (h ag s σ H _ I hw) λv s1 h1=>cX h1 λu s2 h2=>cX h2 λc s3 bx=>?_) h1;obtain⟨x,H1,I1,r1,q1⟩:=bx;obtain⟨d,rfl,q⟩:=q1;cases r1;exact nj ⟨H1,I1,q⟩
def dG {e:Expr}{t:TE}(h:PE X e t)(he:∀whole,isTrue e X.env whole=(do let v <-whole;standAt e.pos;holding [v] (truthy v)):=by intro _;rfl):PT X e (tB t):=by
 intro ag s σ H Q I hw;refine isTrue_plain (cX (h ag s σ H _ I hw) λv s1 bx=>?_) (he _);obtain⟨x,H1,I1,r1,q1⟩:=bx;obtain⟨d,rfl,q⟩:=q1;cases r1;exact nj ⟨H1,I1,q⟩
variable {tA SX:TT}{rest:List Expr}
def Va (t u:TT):TT:=λσ H Q=>t σ H λc H1=>if c=true then u σ H1 Q else Q false H1
def tOr (t u:TT):TT:=λσ H Q=>t σ H λc H1=>if c=true then Q true H1 else u σ H1 Q
def U3 (t:TT):TT:=λσ H Q=>t σ H λc H1=>Q (!c) H1
def iA (ha:PT X a tA):PW X (.BoolOp .And [a] pos) tA:=by
 intro wh ag s σ H Q I h;refine isTrue_and (cX (ha ag s σ H Q I h) λc s1 e=>?_);cases c with
 | true=>exact isTrue_and_nil e
 | false=>exact e
def jK (ha:PT X a tA):PW X (.BoolOp .Or [a] pos) tA:=by
 intro wh ag s σ H Q I h;refine isTrue_or (cX (ha ag s σ H Q I h) λc s1 e=>?_);cases c with
 | false=>exact isTrue_or_nil e
 | true=>exact e
def jb (ha:PT X a tA)(hb:PW X (.BoolOp .And (b::rest) pos) SX):PW X (.BoolOp .And (a::b::rest) pos) (Va tA SX):=by
 intro wh ag s σ H Q I h;refine isTrue_and (cX (ha ag s σ H _ I h) λc s1 bx=>?_);obtain⟨H1,I1,q1⟩:=bx;cases c with
 | true=>exact hb wh ag s1 σ H1 Q I1 q1
 | false=>exact⟨H1,I1,q1⟩
def kZ (ha:PT X a tA)(hb:PW X (.BoolOp .Or (b::rest) pos) SX):PW X (.BoolOp .Or (a::b::rest) pos) (tOr tA SX):=by
 intro wh ag s σ H Q I h;refine isTrue_or (cX (ha ag s σ H _ I h) λc s1 bx=>?_);obtain⟨H1,I1,q1⟩:=bx;cases c with
 | true=>exact⟨H1,I1,q1⟩
 | false=>exact hb wh ag s1 σ H1 Q I1 q1
def iM (ha:PT X a tA):PT X (.UnaryOp .Not a pos) (U3 tA):=by
 intro ag s σ H Q I h;exact isTrue_not (ha ag s σ H (λc H1=>Q (!c) H1) I h)
def P4 (ta tb:TE):TE:=λσ H Q=>ta σ H λx H1=>XB x λc=>if c=true then tb σ H1 Q else Q (.bl false) H1
def U2 (ta tb:TE):TE:=λσ H Q=>ta σ H λx H1=>XB x λc=>if c=true then Q (.bl true) H1 else tb σ H1 Q
def PL (ta:TE):TE:=λσ H Q=>ta σ H λx H1=>XB x λc=>Q (.bl (!c)) H1
def jM {op}{t:TE}(h:PE X a t):PE X (.BoolOp op [a] pos) t:=λag s σ H Q I hw=>BoolOp_one (h ag s σ H Q I hw)
def jN (ha:PE X a ta)(hb:PE X (.BoolOp .And (b::rest) pos) tb):PE X (.BoolOp .And (a::b::rest) pos) (P4 ta tb):=by
 intro ag s σ H Q I h;refine BoolOp_and (cX (ha ag s σ H _ I h) λv s1 bx=>?_);obtain⟨x,H1,I1,r1,q1⟩:=bx;obtain⟨c,rfl,q1⟩:=q1;cases r1;refine nj ?_;cases c with
 | true=>exact hb ag s1 σ H1 Q I1 q1
 | false=>exact⟨.bl false,H1,I1,rfl,q1⟩
def K_ (ha:PE X a ta)(hb:PE X (.BoolOp .Or (b::rest) pos) tb):PE X (.BoolOp .Or (a::b::rest) pos) (U2 ta tb):=by
 intro ag s σ H Q I h;refine BoolOp_or (cX (ha ag s σ H _ I h) λv s1 bx=>?_);obtain⟨x,H1,I1,r1,q1⟩:=bx;obtain⟨c,rfl,q1⟩:=q1;cases r1;refine nj ?_;cases c with
 | false=>exact hb ag s1 σ H1 Q I1 q1
 | true=>exact⟨.bl true,H1,I1,rfl,q1⟩
def Ge (ha:PE X a ta):PE X (.UnaryOp .Not a pos) (PL ta):=by
 intro ag s σ H Q I h;refine UnaryOp_ (cX (ha ag s σ H _ I h) λv s1 bx=>?_);obtain⟨x,H1,I1,r1,q1⟩:=bx;obtain⟨c,rfl,q1⟩:=q1;cases r1;exact not_of (nj ⟨.bl (!c),H1,I1,rfl,q1⟩)
def tIf (t:TT)(ta tb:TE):TE:=λσ H Q=>t σ H λc H1=>if c=true then ta σ H1 Q else tb σ H1 Q
def sE {c:Expr}(hc:PT X c tA)(ha:PE X a ta)(hb:PE X b tb):PE X (.IfExp c a b pos) (tIf tA ta tb):=by
 intro ag s σ H Q I h;refine wpAny_IfExp (cX (hc ag s σ H _ I h) λd s1 bx=>?_);obtain⟨H1,I1,q1⟩:=bx;cases d with
 | true=>exact ha ag s1 σ H1 Q I1 q1
 | false=>exact hb ag s1 σ H1 Q I1 q1
end
def aG (K:a8)(H:Hp)(a:Addr)(xs:List V):Prop :=
 Rd H a (.lst xs) \/
  ∃(o:Obj)(aN:Array Value) (n:Nat),K.lookup a=some o/\o.cls=.type "list" /\ o.dict=none/\o.data=.seq aN n/\aN.size<=sizeLine/\aY xs aN.toList
def aR (K:a8)(H:Hp)(a:Addr)(xs:List V):Prop :=
 Rd H a (.tup xs) \/
  ∃(o:Obj)(aN:Array Value) (n:Nat),K.lookup a=some o/\o.cls=.type "tuple" /\ o.data=.seq aN n/\aN.size<=sizeLine/\aY xs aN.toList
def Yw:Value->Option V
 | .none=>some .eV
 | .bool b=>some (.bl b)
 | .int i _=>some (.int i)
 | .str x _=>some (.str x)
 | .bytes b _=>some (.Bh b)
 | .float b _=>some (.N6 b)
 | .ref a=>some (.ref a)
 | .type n=>some (.ty n)
 | _=>none
def RelV.abs {x:V}{u:Value}(r:RelV x u):Yw u=some x:=by
 cases x with
 | eV=>cases r;rfl
 | bl _=>cases r;rfl
 | int _=>obtain⟨t,rfl⟩:=r;rfl
 | str _=>obtain⟨t,rfl⟩:=r;rfl
 | Bh _=>obtain⟨t,rfl⟩:=r;rfl
 | N6 _=>obtain⟨t,rfl⟩:=r;rfl
 | ref _=>cases r;rfl
 | ty _=>cases r;rfl
def RelV.inj {x y:V}{u:Value}(r:RelV x u)(q:RelV y u):x=y:=iw (r.abs.symm.trans q.abs)
theorem aY.inj:∀{xs ys:List V}{us:List Value},aY xs us->aY ys us->xs=ys
 | _,_,_,.nil,.nil=>rfl
 | _,_,_,.cons r t,.cons r' t'=>by rw [r.inj r',aY.inj t t']
section
variable {X:Cx}{ag:List (Addr×Obj)}{σ:St}{H:Hp}{s:Shared}{a:Addr}{xs ys:List V}
def aG.of {K:a8}(h:H a=some (.lst xs)):aG K H a xs:=.inl (.inl h)
def aR.of {K:a8}(h:H a=some (.tup xs)):aR K H a xs:=.inl (.inl h)
def Inv.list (I:Inv X ag σ H s)(h:aG X.K H a xs):∃aN:List Value,aY xs aN/\PlainL s.heap a aN.toArray/\xs.length<=sizeLine:=by
 rcases h with h | ⟨o,aN,n,hk,hc,hd,hs,hz,r⟩
 .obtain⟨z,aN,n,r,e⟩:=h.ok I.bZ;exact⟨aN,r,⟨_,n,e,rfl,rfl,rfl⟩,z⟩
 refine⟨aN.toList,r,⟨o,n,I.wX a o hk,hc,hd,by simpa using hs⟩,?_⟩;have e:=r.length;simp only [iG] at e;omega
def Inv.tuple (I:Inv X ag σ H s)(h:aR X.K H a xs):∃aN:List Value,aY xs aN/\IsTup s.heap a aN.toArray/\xs.length<=sizeLine:=by
 rcases h with h | ⟨o,aN,n,hk,hc,hs,hz,r⟩
 .obtain⟨z,aN,r,p⟩:=h.ok I.bZ;exact⟨aN,r,p,z⟩
 refine⟨aN.toList,r,⟨o,I.wX a o hk,hc,n,by simpa using hs⟩,?_⟩;have e:=r.length;simp only [iG] at e;omega
def Inv.sM (I:Inv X ag σ H s)(h:aG X.K H a xs)(h':aG X.K H a ys):xs=ys:=by
 obtain⟨aN,r,⟨o,n,e,_,_,d⟩,_⟩:=I.list h;obtain⟨uj,r',⟨o',n',e',_,_,d'⟩,_⟩:=I.list h';rw [e] at e';cases e';rw [d] at d';injection d' with d1 _;have:aN=uj:=by simpa using congrArg Array.toList d1
 subst this;exact r.inj r'
def Inv.uA (I:Inv X ag σ H s)(h:aR X.K H a xs)(h':aR X.K H a ys):xs=ys:=by
 obtain⟨aN,r,⟨o,e,_,n,d⟩,_⟩:=I.tuple h;obtain⟨uj,r',⟨o',e',_,n',d'⟩,_⟩:=I.tuple h';rw [e] at e';cases e';rw [d] at d';injection d' with d1 _;have:aN=uj:=by simpa using congrArg Array.toList d1
 subst this;exact r.inj r'
end
abbrev Cx.qw (X:Cx)(E:Value->Shared->Prop):Cx:={ X with xe:=E }
abbrev Cx.Dx (X:Cx):Cx:=X.qw λ_ _=>False
theorem Cx.Ok.qw {X:Cx}(ok:X.Ok)(E:Value->Shared->Prop):(X.qw E).Ok :=
 ⟨ok.mod,ok.kind,ok.glob,ok.blt,ok.above,ok.inj,ok.has,ok.Sk,ok.hd,ok.frames,ok.Ta,ok.O7,ok.bs,ok.Jf,ok.GX,ok.Ec,ok.pM,ok.LD⟩
def Cx.Ok.i_ {X:Cx}{E:Value->Shared->Prop}(ok:(X.qw E).Ok):X.Ok :=
 ⟨ok.mod,ok.kind,ok.glob,ok.blt,ok.above,ok.inj,ok.has,ok.Sk,ok.hd,ok.frames,ok.Ta,ok.O7,ok.bs,ok.Jf,ok.GX,ok.Ec,ok.pM,ok.LD⟩
section
variable {X:Cx}{ag:List (Addr×Obj)}{σ:St}{H:Hp}{s:Shared}{E:Value->Shared->Prop}
theorem Inv.qw (I:Inv X ag σ H s)(E:Value->Shared->Prop):Inv (X.qw E) ag σ H s:=⟨I.ok.qw E,I.os,I.bare,I.base,I.loc,I.cell,I.free,I.lF,I.pin,I.bZ,I.len⟩
theorem Inv.i_ (I:Inv (X.qw E) ag σ H s):Inv X ag σ H s:=⟨I.ok.i_,I.os,I.bare,I.base,I.loc,I.cell,I.free,I.lF,I.pin,I.bZ,I.len⟩
theorem SP.i_ {D:Ends}{f:Flow}{s':Shared}(h:SP (X.qw E) ag D f s'):SP X ag D f s':=by
 cases f with
 | next=>obtain⟨σ',H',I,q⟩:=h;exact⟨σ',H',I.i_,q⟩
 | brk=>obtain⟨σ',H',I,q⟩:=h;exact⟨σ',H',I.i_,q⟩
 | cont=>obtain⟨σ',H',I,q⟩:=h;exact⟨σ',H',I.i_,q⟩
 | ret u=>obtain⟨v,σ',H',I,r,q⟩:=h;exact⟨v,σ',H',I.i_,r,q⟩
theorem PE.Dx {e:Expr}{t:TE}(h:PE X.Dx e t):PE X e t:=λag s σ H Q I hw =>
 dC (h ag s σ H Q (I.qw _) hw) (λ_ _ ⟨v,H',I',r,q⟩=>⟨v,H',I'.i_,r,q⟩) λ_ _ z=>False.elim z
theorem PT.Dx {e:Expr}{t:TT}(h:PT X.Dx e t):PT X e t:=λag s σ H Q I hw =>
 dC (h ag s σ H Q (I.qw _) hw) (λ_ _ ⟨H',I',q⟩=>⟨H',I'.i_,q⟩) λ_ _ z=>False.elim z
theorem Bm.Dx {st:List Stmt}{t:TS}(h:Bm X.Dx st t):Bm X st t:=λag s σ H D I hw =>
 dC (h ag s σ H D (I.qw _) hw) (λ_ _ q=>q.i_) λ_ _ z=>False.elim z
end
section
variable {X:Cx}{st:Stmt}{rest:List Stmt}{t u:TS}{e:Expr}{te:TE}{pos:Pos}
def PN:TS:=λD σ H=>D.nx σ H
def Mn (t u:TS):TS:=λD σ H=>t { D with nx:=u D } σ H
def aS:Bm X [] PN:=λ_ _ σ H _ I h=>wpAny_execs_nil ⟨σ,H,I,h⟩
def aj (h1:PS X st t)(h2:Bm X rest u):Bm X (st::rest) (Mn t u):=by
 intro ag s σ H D I h;refine wpAny_execs_cons (cX (h1 ag s σ H { D with nx:=u D } I h) λf s1 q=>?_);cases f with
 | next =>
  obtain⟨σ',H',I',q⟩:=q;exact h2 ag s1 σ' H' D I' q
 | ret v=>exact q
 | brk=>exact q
 | cont=>exact q
def ak (h1:PS X st t):Bm X [st] t:=by
 intro ag s σ H D I h;refine wpAny_execs_cons (cX (h1 ag s σ H D I h) λf s1 q=>?_);cases f with
 | next=>exact wpAny_execs_nil q
 | ret v=>exact q
 | brk=>exact q
 | cont=>exact q
def Mr:TS:=λD σ H=>D.bk σ H
def F6:PS X (.Break pos) Mr:=λ_ _ σ H _ I h=>wpAny_Break ⟨σ,H,I,h⟩
def Inv.quiet {ag:List (Addr×Obj)}{σ:St}{H:Hp}{s:Shared}(I:Inv X ag σ H s):interactive X.env=false:=by simp [interactive,I.ok.kind]
def PY (te:TE):TS:=λD σ H=>te σ H λ_ H1=>D.nx σ H1
def cC (he:PE X e te)(hs:swapsWith e none pos.line X.env=pure false:=by rfl):PS X (.Expr e pos) (PY te):=by
 intro ag s σ H D I h;refine wpAny_Expr_any (cX (he ag s σ H _ I h) λv s1 bx=>?_) I.quiet hs;obtain⟨x,H1,I1,r1,q1⟩:=bx;exact⟨σ,H1,I1,q1⟩
def U1 (te:TE):TS:=λD σ H=>te σ H D.rt
def aQ (he:PE X e te):PS X (.Return (some e) pos) (U1 te):=by
 intro ag s σ H D I h;refine wpAny_Return_some (cX (he ag s σ H _ I h) λv s1 bx=>?_);obtain⟨x,H1,I1,r1,q1⟩:=bx;exact⟨x,σ,H1,I1,r1,q1⟩
def U6 (c:TT)(t u:TS):TS:=λD σ H=>c σ H λb H1=>if b=true then t D σ H1 else u D σ H1
def bU {c:Expr}{a b:List Stmt}{tc:TT}(hc:PT X c tc)(ha:Bm X a t)(hb:Bm X b u):PS X (.If c a b pos) (U6 tc t u):=by
 intro ag s σ H D I h;refine wpAny_If (cX (hc ag s σ H _ I h) λd s1 bx=>?_);obtain⟨H1,I1,q1⟩:=bx;cases d with
 | true=>exact ha ag s1 σ H1 D I1 q1
 | false=>exact hb ag s1 σ H1 D I1 q1
def Mo:TS:=λ_ _ _=>False
def iN:PS X st Mo:=λ_ _ _ _ _ _ h=>h.elim
end
abbrev TG:=V->St->Hp->(St->Hp->Prop)->Prop
abbrev LZ:=List V->St->Hp->(St->Hp->Prop)->Prop
def PG (X:Cx)(target:Expr)(t:TG):Prop :=
 ∀(ag:List (Addr×Obj))(s:Shared)(σ:St)(H:Hp)(v:V)(u:Value)(Q:St->Hp->Prop),Inv X ag σ H s->RelV v u->t v σ H Q ->
  wpAny (model X.prog X.w) X.A (assign target X.env u) (λ_ s'=>∃σ' H',Inv X ag σ' H' s'/\Q σ' H') X.xe s
def Sz (X:Cx)(ts:List Expr)(t:LZ):Prop :=
 ∀(ag:List (Addr×Obj))(s:Shared)(σ:St)(H:Hp)(vs:List V)(us:List Value)(Q:St->Hp->Prop),Inv X ag σ H s->aY vs us->t vs σ H Q ->
  wpAny (model X.prog X.w) X.A (assignInOrder ((assignEach ts X.env).map (·.2)) us) (λ_ s'=>∃σ' H',Inv X ag σ' H' s'/\Q σ' H') X.xe s
abbrev Uz:=V->V->Hp->VK->Prop
def PIp (X:Cx)(op:Operator)(t:Uz):Prop :=
 ∀(ag:List (Addr×Obj))(s:Shared)(σ:St)(H:Hp)(x y:V)(v u:Value)(Q:VK),Inv X ag σ H s->RelV x v->RelV y u->t x y H Q ->
  wpAny (model X.prog X.w) X.A (inplaceOp op v u) (EP X ag σ Q) X.xe s
section
variable {X:Cx}{pos:Pos}
def dM (i:Nat):TG:=λv σ H Q=>Q (σ.set i (some v)) H
def ao {i:Nat}{x:Str}(hN:X.N.Nodup)(hi:X.N[i]?=some x)(hx:Loc X.env.scope x)(hf:X.fn x=true\/X.env.scope.names.lookup x=some .local:=by first | exact .inl rfl | exact .inr rfl | assumption):PG X (.Name x pos) (dM i):=by
 intro ag s σ H v u Q I r h;exact wpAny_assign_Name (rQ I hN hi hx r (λs' I'=>⟨_,H,I',h⟩) hf)
def DV:LZ:=λvs σ H Q=>vs=[]/\Q σ H
def ju (t:TG)(u:LZ):LZ:=λvs σ H Q=>LY vs λv r=>t v σ H λσ' H'=>u r σ' H' Q
def bV:Sz X [] DV:=by
 intro ag s σ H vs us Q I r h;obtain⟨e,h⟩:=h;subst e;cases r;exact assignInOrder_nil ⟨σ,H,I,h⟩
def aA {e:Expr}{es:List Expr}{t:TG}{u:LZ}(h1:PG X e t)(h2:Sz X es u)
  (hs:(assignEach (e::es) X.env).map (·.2)=assign e X.env::(assignEach es X.env).map (·.2):=by rfl):Sz X (e::es) (ju t u):=by
 intro ag s σ H vs us Q I r h;obtain⟨v,vr,e1,h⟩:=h;subst e1;cases r with
 | cons r rr =>
  rw [hs];refine assignInOrder_cons (cX (h1 ag s σ H _ _ _ I r h) λ_ s1 bx=>?_);obtain⟨σ1,H1,I1,q1⟩:=bx;exact h2 ag s1 σ1 H1 _ _ Q I1 rr q1
def AZ (K:a8) (n:Nat)(t:LZ):TG:=λv σ H Q=>Sv v (aR K H) n λxs=>t xs σ H Q
def gP {es:List Expr}{k:Nat}{t:LZ}{n:Nat}(hc:X.calm=true)(h:Sz X es t)
  (hn:(assignEach es X.env).length=n:=by rfl)(mZ:(assignEach es X.env).findIdx? (·.1)=none:=by rfl):PG X (.Tuple es k pos) (AZ X.K n t):=by
 intro ag s σ H v u Q I r hw;obtain⟨a,xs,e1,hq,hl,hw⟩:=hw;subst e1;cases r;obtain⟨aN,rv,ht,hz⟩:=I.tuple hq;refine assign_Tuple_tuple (I.ok.hd hc) ht (by simp [hn,<-hl,rv.length]) mZ λh' hx=>?_;have I1:Inv X ag σ H { s with heap:=h' }:=I.kept (t':=s.toks) λb o e=>hx b o (bE (bu e)) e;exact h ag _ σ H xs _ Q I1 (by simpa using rv) hw
def Ms (te:TE)(g:TG):TS:=λD σ H=>te σ H λx H1=>g x σ H1 D.nx
def MV {tg e:Expr}{te:TE}{g:TG}(he:PE X e te)(hg:PG X tg g)(hs:swapsWithSole [tg] e pos.line X.env=pure false:=by rfl)(hw:swappedStores [tg] e X.env=pure none:=by rfl)
  (h1:(assignEach [tg] X.env).map (·.2)=[assign tg X.env]:=by rfl):PS X (.Assign [tg] e pos) (Ms te g):=by
 intro ag s σ H D I h;refine wpAny_Assign_stores (cX (he ag s σ H _ I h) λv s1 bx=>?_) hs hw;obtain⟨x,H1,I1,r1,q1⟩:=bx;rw [h1];exact cX (hg ag s1 σ H1 x v _ I1 r1 q1) λ_ s2 q=>q
def aC {i:Nat}{x:Str}{e:Expr}{te:TE}{pos':Pos}(hN:X.N.Nodup)(hi:X.N[i]?=some x)(hx:Loc X.env.scope x)(he:PE X e te)(hs:swapsWith e (some (.Name x pos')) pos.line X.env=pure false:=by rfl)(hf:X.fn x=true\/X.env.scope.names.lookup x=some .local:=by first | exact .inl rfl | exact .inr rfl | assumption) :
  PS X (.Assign [.Name x pos'] e pos) (Ms te (dM i)):=by
 intro ag s σ H D I h;refine wpAny_Assign_Name (cX (he ag s σ H _ I h) λv s1 bx=>?_) hs;obtain⟨y,H1,I1,r1,q1⟩:=bx;exact rQ I1 hN hi hx r1 (λs2 I2=>⟨_,H1,I2,q1⟩) hf
def U_ (i:Nat)(te:TE)(ti:Uz):TS:=λD σ H=>∃x,σ[i]?=some (some x)/\te σ H λy H1=>ti x y H1 λz H2=>D.nx (σ.set i (some z)) H2
def MU {i:Nat}{x:Str}{e:Expr}{te:TE}{op:Operator}{ti:Uz}{pos':Pos}(hN:X.N.Nodup)(hi:X.N[i]?=some x)(hx:Loc X.env.scope x)(he:PE X e te)(ho:PIp X op ti)(hf:X.fn x=true\/X.env.scope.names.lookup x=some .local:=by first | exact .inl rfl | exact .inr rfl | assumption) :
  PS X (.AugAssign (.Name x pos') op e pos) (U_ i te ti):=by
 intro ag s σ H D I h;obtain⟨v,e1,h⟩:=h;obtain⟨m,hn,hl⟩:=I.loc;have vis:Uy X.env.scope x:=by rcases hx with k | k;exact .inl k;exact .inr (.inl k)
 obtain⟨u,r,l⟩:=hl i x v hi e1 vis;refine wpAny_AugAssign_Name ?_;have go:wpAny (model X.prog X.w) X.A (eval e X.env) (λw s₂=>wpAny (model X.prog X.w) X.A (inplaceOp op u w) (λr s₃=>wpAny (model X.prog X.w) X.A (storeName X.env x r) (λ_=>SP X ag D .next) X.xe s₃) X.xe s₂) X.xe s:=by
  refine cX (he ag s σ H _ I h) λw s1 bx=>?_;obtain⟨y,H1,I1,r1,q1⟩:=bx;refine cX (ho ag s1 σ H1 v y u w _ I1 r r1 q1) λz s2 bx=>?_;obtain⟨zv,H2,I2,r2,q2⟩:=bx;exact rQ I2 hN hi hx r2 (λs3 I3=>⟨_,H2,I3,q2⟩) hf
 rcases l with ⟨hk,hm⟩ | ⟨hk,c,hc,jr⟩
 .exact vF I.ok.kind hk hn hm go
 rcases hk with hk | hk
 .exact wpAny_loadName_cell I.ok.kind hk hc jr go
 rcases hx with k | k
 .have:X.env.scope.names.lookup x=some .free:=hk;rw [k] at this;cases this
 have:X.env.scope.names.lookup x=some .free:=hk;rw [k] at this;cases this
def ipI (f:Int->Int->Int):Uz:=λx y H Q=>∃i j,x=.int i/\y=.int j/\Q (.int (f i j)) H
def Nu:PIp X .Add (ipI λi j=>i+j):=by
 intro ag s σ H x y v u Q I r1 r2 h;obtain⟨i,j,e1,e2,q⟩:=h;subst e1;subst e2;obtain⟨t,rfl⟩:=r1;obtain⟨t',rfl⟩:=r2;exact iadd_int ⟨.int _,H,I.tok _,⟨_,rfl⟩,q⟩
end
section
variable {X:Cx}{pos:Pos}
def Ml (c:TT)(tb:TS):TS:=λD σ H=>∃W:Nat->St->Hp->Prop,(∃m,W m σ H)/\∀m σ H,W m σ H ->
 c σ H λb H1=>if b=true then ∃N:St->Hp->Prop,(∀σ' H',N σ' H'->∃m',m' < m/\W m' σ' H')/\tb { D with nx:=N,ct:=N,bk:=D.nx } σ H1 else D.nx σ H1
def k9 {c:Expr}{body:List Stmt}{tc:TT}{tb:TS}(hp:PassesOwn (model X.prog X.w) X.A X.env X.xe)(hc:PT X c tc)(hb:Bm X body tb):PS X (.While c body [] pos) (Ml tc tb):=by
 intro ag s σ H D I h;obtain⟨W,⟨m0,w0⟩,turn⟩:=h;refine wpAny_While (codeAny_whileLoop (λn s'=>∃σ' H',Inv X ag σ' H' s'/\W n σ' H') ?_ m0 ⟨σ,H,I,w0⟩);rintro n s1 ⟨σ1,H1,I1,w1⟩;refine mv hp (cX (hc ag s1 σ1 H1 _ I1 (turn n σ1 H1 w1)) λb s2 bx=>?_);obtain⟨H2,I2,q2⟩:=bx;cases b with
 | true =>
  obtain⟨N,hN,q2⟩:=q2;rw [ax rfl];refine mv hp (cX (hb ag s2 σ1 H2 _ I2 q2) λf s3 q3=>?_);cases f with
  | next =>
   obtain⟨σ3,H3,I3,n3⟩:=q3;obtain⟨m',hm,w3⟩:=hN σ3 H3 n3;exact⟨m',hm,σ3,H3,I3,w3⟩
  | cont =>
   obtain⟨σ3,H3,I3,n3⟩:=q3;obtain⟨m',hm,w3⟩:=hN σ3 H3 n3;exact⟨m',hm,σ3,H3,I3,w3⟩
  | brk=>exact q3
  | ret v=>exact q3
 | false =>
  rw [aw c_];exact wpAny_execs_nil ⟨σ1,H2,I2,q2⟩
end
structure It where
 go:Nat->Hp->Prop
 mE:Nat->Hp->V->Hp->Prop
 stop:Nat->Hp->Prop
def xt (X:Cx)(ag:List (Addr×Obj))(H:Hp)(b:Addr):Prop :=
 H b=none/\b≠X.env.locals/\b∉X.fs/\(b∈X.ex\/X.s₀.heap.objs.size<=b)/\(∀x c,X.env.cells.lookup x=some c->c≠b)/\∀p∈X.pn++ag,p.1≠b
def Inv.w_ {X:Cx}{ag:List (Addr×Obj)}{σ:St}{H H':Hp}{s:Shared}{b:Addr}(I:Inv X ag σ H s)(hb:s.heap.objs.size<=b)(hn:H' b=none):xt X ag H' b:=by
 refine⟨hn,j4 (gu I.lt hb),I.VL hb,.inr (dI I.sz hb),λx c e z=>?_,λp hp z=>?_⟩
 .obtain⟨v,q⟩:=I.cell x c e;exact absurd (gu q.lt (by rw [z];exact hb)) (jC _)
 exact absurd (gu (bu (I.pin p hp).1) (by rw [z];exact hb)) (jC _)
structure Turn (P:Program)(w:World)(K:a8)(tg:Expr)(J:It)(fp:List Addr)(it:Addr)(tn:Nat->Heap->Prop):Prop where
 mem:it∈fp
 obj:∀i h,tn i h->∀b∈fp,∃o,h.get? b=some o/\∀v,o.data≠.cell v
 keep:∀i h h',tn i h->(∀b∈fp,∀o,h.get? b=some o->h'.get? b=some o)->tn i h'
 item:∀(X:Cx),X.prog=P->X.w=w->X.K=K->X.calm=true->∀(i:Nat)(ag:List (Addr×Obj))(s:Shared)(σ:St)(H:Hp)(E:Value->Shared->Prop),Inv X ag σ H s->(∀b∈fp,xt X ag H b)->tn i s.heap->J.go i H ->
  wpAny (model P w) X.A (pyNext (.ref it)) (λr s1=>∃u,r=some u /\
   wpAny (model P w) X.A (letOwnedTupleGo tg (.ref it) u) (λ_ s2=>∃x H',Inv X ag σ H' s2/\RelV x u/\J.mE i H x H'/\tn (i+1) s2.heap/\∀b∈fp,H' b=none) E s1) E s
 done:∀(X:Cx),X.prog=P->X.w=w->X.K=K->X.calm=true->∀(i:Nat)(ag:List (Addr×Obj))(s:Shared)(σ:St)(H:Hp)(E:Value->Shared->Prop),Inv X ag σ H s->(∀b∈fp,xt X ag H b)->tn i s.heap->J.stop i H ->
  wpAny (model P w) X.A (pyNext (.ref it)) (λr s1=>r=none/\Inv X ag σ H s1) E s
 self:∀(A:Around) (i:Nat)(s:Shared)(Q:Value->Shared->Prop)(E:Value->Shared->Prop),tn i s.heap->Q (.ref it) s->wpAny (model P w) A (pyIter (.ref it)) Q E s
abbrev TI:=St->Hp->(It->Hp->Prop)->Prop
def PIE (X:Cx)(ag:List (Addr×Obj))(σ:St)(tg:Expr)(R:It->Hp->Prop)(TB:Value)(s2:Shared):Prop :=
 ∃(it:Addr)(fp:List Addr)(tn:Nat->Heap->Prop)(J:It)(H':Hp),TB=.ref it/\Inv X ag σ H' s2/\Turn X.prog X.w X.K tg J fp it tn/\tn 0 s2.heap/\(∀b∈fp,xt X ag H' b)/\R J H'
def PI (X:Cx)(tg iter:Expr)(wi:TI):Prop :=
 ∀(ag:List (Addr×Obj))(s:Shared)(σ:St)(H:Hp)(R:It->Hp->Prop),Inv X ag σ H s->wi σ H R ->
  wpAny (model X.prog X.w) X.A (eval iter X.env) (λv s1=>wpAny (model X.prog X.w) X.A (pyIter v) (PIE X ag σ tg R) X.xe s1) X.xe s
def Co {M:Model}{A:Around}{E:Value->Shared->Prop}{s:Shared}{tg:Expr}{it:Addr}{u:Value}{o:Obj}{n:String}{vs:Array Value}{Q:Unit->Shared->Prop}(ho:s.heap.get? it=some o)(hc:o.cls=.type n)(hd:o.data=.fields vs)
  (hn:["enumerate","zip","dict_itemiterator","dict_reverseitemiterator","odict_iterator","itertools.zip_longest","itertools.pairwise"].contains n=false)(hQ:Q () s):wpAny M A (letOwnedTupleGo tg (.ref it) u) Q E s:=by
 unfold letOwnedTupleGo;cases tg <;> first
  | exact aH hQ
  | (cases u <;> first
    | exact aH hQ
    | (refine aq (wpAny_load ho ?_)
       rw [hc,hd];show wpAny M A (if (["enumerate","zip","dict_itemiterator","dict_reverseitemiterator","odict_iterator","itertools.zip_longest","itertools.pairwise"].contains n && vs[0]? == some (rawInt _))=true then _ else _) Q E s;rw [aw (by intro h;rw [hn,q9] at h;cases h)];exact aH hQ))
def kn (K:a8)(a:Addr):It :=
 ⟨λi H=>∃xs x,aG K H a xs/\xs[i]?=some x,λi H x H'=>H'=H/\∀xs,aG K H a xs->xs[i]?=some x,λi H=>∃xs,aG K H a xs/\xs.length<=i⟩
def oJ (K:a8)(a:Addr):It :=
 ⟨λi H=>∃xs x,aR K H a xs/\xs[i]?=some x,λi H x H'=>H'=H/\∀xs,aR K H a xs->xs[i]?=some x,λi H=>∃xs,aR K H a xs/\xs.length<=i⟩
def KQ (lo:Int) (n:Nat):It:=⟨λi _=>i < n,λi H x H'=>H'=H/\x=.int (lo+i),λi _=>n<=i⟩
def CN {P:Program}{w:World}{K:a8}{tg:Expr}(a it:Addr):Turn P w K tg (kn K a) [it] it (λi h=>h.IsListIter it a i) where
 mem:=by simp
 obj:=λi h st b hb=>by
  have e:b=it:=by simpa using hb
  subst e;obtain⟨o,e,c,d⟩:=st;exact⟨o,e,λv z=>by rw [d] at z;cases z⟩
 keep:=λi h h' st k=>st.at λo e=>k it (by simp) o e
 item:=by
  intro X hP hw hK hc i ag s σ H E I hf st hg;subst hP hw hK;obtain⟨xs,x,hq,hx⟩:=hg;obtain⟨aN,rv,p,hz⟩:=I.list hq;obtain⟨u,hu,ru⟩:=rv.get hx;obtain⟨f0,f1,f2,f3,f4,f5⟩:=hf it (by simp);refine wpAny_pyNext_list_item st p.isList (x:=u) (by simpa using hu) λh' uF sb=>?_;have I1:Inv X ag σ H { s with heap:=h' }:=I.turned (t':=s.toks) (λb o hb e=>(sb.2 b hb).trans e) f0 f1 f3 f4 f5;obtain⟨o,e,c,d⟩:=id uF;exact⟨u,rfl,Co (s:={ s with heap:=h' }) e c d nofun ⟨x,H,I1,ru,⟨rfl,λys hy=>by rw [I.sM hy hq];exact hx⟩,uF,λb hb=>(hf b hb).1⟩⟩
 done:=by
  intro X hP hw hK hc i ag s σ H E I hf st hg;subst hP hw hK;obtain⟨xs,hq,hx⟩:=hg;obtain⟨aN,rv,p,hz⟩:=I.list hq;obtain⟨f0,f1,f2,f3,f4,f5⟩:=hf it (by simp);have hl:=rv.length;exact vJ (I.ok.hd hc) st p.isList (by simp;omega) λh' eb=>⟨rfl,I.turned (t':=s.toks) (λb o hb e=>eb b o hb e) f0 f1 f3 f4 f5⟩
 self:=λ_ _ _ _ _ st h=>wpAny_pyIter_listiter st h
def zL {P:Program}{w:World}{K:a8}{tg:Expr}(a it:Addr):Turn P w K tg (oJ K a) [it] it (λi h=>h.IsTupleIter it a i) where
 mem:=by simp
 obj:=λi h st b hb=>by
  have e:b=it:=by simpa using hb
  subst e;obtain⟨o,e,c,d⟩:=st;exact⟨o,e,λv z=>by rw [d] at z;cases z⟩
 keep:=λi h h' st k=>st.at λo e=>k it (by simp) o e
 item:=by
  intro X hP hw hK hc i ag s σ H E I hf st hg;subst hP hw hK;obtain⟨xs,x,hq,hx⟩:=hg;obtain⟨aN,rv,p,hz⟩:=I.tuple hq;obtain⟨u,hu,ru⟩:=rv.get hx;obtain⟨f0,f1,f2,f3,f4,f5⟩:=hf it (by simp);refine wpAny_pyNext_tuple_item st (show s.heap.IsTuple a aN.toArray from p) (x:=u) (by simpa using hu) λh' uF sb=>?_;have I1:Inv X ag σ H { s with heap:=h' }:=I.turned (t':=s.toks) (λb o hb e=>(sb.2 b hb).trans e) f0 f1 f3 f4 f5;obtain⟨o,e,c,d⟩:=id uF;exact⟨u,rfl,Co (s:={ s with heap:=h' }) e c d nofun ⟨x,H,I1,ru,⟨rfl,λys hy=>by rw [I.uA hy hq];exact hx⟩,uF,λb hb=>(hf b hb).1⟩⟩
 done:=by
  intro X hP hw hK hc i ag s σ H E I hf st hg;subst hP hw hK;obtain⟨xs,hq,hx⟩:=hg;obtain⟨aN,rv,p,hz⟩:=I.tuple hq;obtain⟨f0,f1,f2,f3,f4,f5⟩:=hf it (by simp);have hl:=rv.length;exact wpAny_pyNext_tuple_end (I.ok.hd hc) st (show s.heap.IsTuple a aN.toArray from p) (by simp;omega) λh' eb=>⟨rfl,I.turned (t':=s.toks) (λb o hb e=>eb b o hb e) f0 f1 f3 f4 f5⟩
 self:=λ_ _ _ _ _ st h=>wpAny_pyIter_tupleiter st h
def zM {P:Program}{w:World}{K:a8}{tg:Expr}(it:Addr) (lo:Int) (n:Nat):Turn P w K tg (KQ lo n) [it] it (λi h=>IsRangeIter h it (lo+(i:Nat) * 1) ((n:Int) - (i:Nat)) 1) where
 mem:=by simp
 obj:=λi h st b hb=>by
  have e:b=it:=by simpa using hb
  subst e;exact⟨_,st,λv z=>by
   have z':Data.fields _=Data.cell v:=z;cases z'⟩
 keep:=λi h h' st k=>k it (by simp) _ st
 item:=by
  intro X hP hw hK hc i ag s σ H E I hf st hg;subst hP hw hK;obtain⟨f0,f1,f2,f3,f4,f5⟩:=hf it (by simp);have W:=Walks.range (prog:=X.prog) (w:=X.w) (I.ok.hd hc) it lo 1 n;refine W.item i s _ _ hg st λv h' tk hv uF kk=>?_;obtain⟨t,rfl⟩:=hv;have I1:Inv X ag σ H { s with heap:=h',toks:=tk }:=I.turned (λb o hb e=>kk b o (by simpa using hb) e) f0 f1 f3 f4 f5;refine⟨_,rfl,Co (s:={ s with heap:=h',toks:=tk }) (n := "range_iterator") uF rfl rfl nofun ⟨.int (lo+i),H,I1,⟨t,?_⟩,⟨rfl,rfl⟩,uF,λb hb=>(hf b hb).1⟩⟩;rw [Int.mul_one]
 done:=by
  intro X hP hw hK hc i ag s σ H E I hf st hg;subst hP hw hK;obtain⟨f0,f1,f2,f3,f4,f5⟩:=hf it (by simp);exact wpAny_pyNext_range_end (I.ok.hd hc) st (by have:n<=i:=hg;omega) λh' eb=>⟨rfl,I.turned (t':=s.toks) (λb o hb e=>eb b o hb e) f0 f1 f3 f4 f5⟩
 self:=λ_ _ _ _ _ st h=>wpAny_pyIter_rangeiter st h
section
variable {X:Cx}{tg:Expr}
def QX (K:a8)(tl:TE):TI:=λσ H R=>tl σ H λx H1=>Yz x (λa=>∃xs,aG K H1 a xs) λa=>R (kn K a) H1
def Wm (K:a8)(tl:TE):TI:=λσ H R=>tl σ H λx H1=>Yz x (λa=>∃xs,aR K H1 a xs) λa=>R (oJ K a) H1
def aX {l:Expr}{tl:TE}(hl:PE X l tl):PI X tg l (QX X.K tl):=by
 intro ag s σ H R I h;refine cX (hl ag s σ H _ I h) λv s1 bx=>?_;obtain⟨x,H1,I1,r1,q1⟩:=bx;obtain⟨a,e,⟨xs,hq⟩,q⟩:=q1;subst e;cases r1;obtain⟨aN,rv,p,hz⟩:=I1.list hq;refine mx p.isList ?_;refine⟨s1.heap.objs.size,[s1.heap.objs.size],_,_,H1,rfl,I1.kept (t':=s1.toks) λb o e=>bH _ e,CN a _,⟨_,cA _ rfl,rfl,rfl⟩,λb hb=>?_,q⟩;have e:b=s1.heap.objs.size:=by simpa using hb
 subst e;exact I1.w_ (aD _) (I1.bZ.fresh (aD _))
def fI {l:Expr}{tl:TE}(hl:PE X l tl):PI X tg l (Wm X.K tl):=by
 intro ag s σ H R I h;refine cX (hl ag s σ H _ I h) λv s1 bx=>?_;obtain⟨x,H1,I1,r1,q1⟩:=bx;obtain⟨a,e,⟨xs,hq⟩,q⟩:=q1;subst e;cases r1;obtain⟨aN,rv,p,hz⟩:=I1.tuple hq;refine vx (show s1.heap.IsTuple a aN.toArray from p) ?_;refine⟨s1.heap.objs.size,[s1.heap.objs.size],_,_,H1,rfl,I1.kept (t':=s1.toks) λb o e=>bH _ e,zL a _,⟨_,cA _ rfl,rfl,rfl⟩,λb hb=>?_,q⟩;have e:b=s1.heap.objs.size:=by simpa using hb
 subst e;exact I1.w_ (aD _) (I1.bZ.fresh (aD _))
def F5 {ag:List (Addr×Obj)}{σ:St}{H:Hp}{s:Shared}{R:It->Hp->Prop}{E:Value->Shared->Prop}{lo hi:Int}{t u v:Tok}{tk:Nat}(I:Inv X ag σ H s)(h1:-(2 ^ 62)<=lo)(h2:lo < 2 ^ 62)(h3:-(2 ^ 62)<=hi)(h4:hi < 2 ^ 62)
  (q:R (KQ lo (hi - lo).toNat) H):wpAny (model X.prog X.w) X.A (pyIter (.ref s.heap.objs.size)) (PIE X ag σ tg R) E { s with heap:=s.heap.push { cls:=.type "range",data:=.fields #[.int lo t,.int hi u,.int 1 v] },toks:=tk }:=by
 refine wpAny_pyIter_range (IsRange.new ..) (small_one h1 h2 h3 h4) ?_;have I1:Inv X ag σ H { s with heap:=s.heap.push { cls:=.type "range",data:=.fields #[.int lo t,.int hi u,.int 1 v] },toks:=tk }:=I.kept λb o e=>bH _ e;refine⟨(s.heap.push { cls:=.type "range",data:=.fields #[.int lo t,.int hi u,.int 1 v] }).objs.size,[(s.heap.push { cls:=.type "range",data:=.fields #[.int lo t,.int hi u,.int 1 v] }).objs.size],_,_,H,rfl,
  I1.kept (t':=tk) λb o e=>bH _ e,zM _ lo (hi - lo).toNat,?_,λb hb=>?_,q⟩
 .have e1:lo+((0:Nat):Int) * 1=lo:=by simp
  have e2:(((hi - lo).toNat:Nat):Int) - ((0:Nat):Int)=Builtin.Range.rangeSize lo hi 1:=by rw [rangeSize_one];split <;> omega
  show IsRangeIter _ _ (lo+((0:Nat):Int) * 1) ((((hi - lo).toNat:Nat):Int) - ((0:Nat):Int)) 1;rw [e1,e2];exact cA _ rfl
 have e:b=(s.heap.push { cls:=.type "range",data:=.fields #[.int lo t,.int hi u,.int 1 v] }).objs.size:=by simpa using hb
 subst e;exact I1.w_ (aD _) (I1.bZ.fresh (aD _))
def QW (ta:TA):TI:=λσ H R=>ta σ H λvs H1=>∃j:Int,vs=[.int j]/\-(2 ^ 62)<=j/\j < 2 ^ 62/\R (KQ 0 j.toNat) H1
def gy {a:Expr}{ta:TA}{p pos:Pos}(hg:Gl X "range")(hm:X.mg "range"=none)(ha:PA X [a] ta)(hs:starEach [a] X.env=[(false,eval a X.env)]:=by rfl):PI X tg (.Call (.Name "range" p) [a] [] pos) (QW ta):=by
 intro ag s σ H R I h;refine Call_ (iQ I hg hm boot_range (xD (cX (ha pos ag s σ H _ I h) λus s1 bx=>?_) hs rfl));obtain⟨vs,H1,I1,r1,q1⟩:=bx;obtain⟨j,e,q1,q2,q⟩:=q1;subst e;cases r1 with
 | cons r rr =>
  cases rr;obtain⟨t,rfl⟩:=r;exact call_range_1 (F5 I1 ∅ ∅ q1 q2 (by simpa using q))
def U7 (wi:TI)(g:TG)(tb:TS):TS:=λD σ H=>wi σ H λJ H1=>∃W:Nat->Nat->St->Hp->Prop,(∃m,W 0 m σ H1)/\∀i m σ H,W i m σ H ->
 (J.stop i H/\D.nx σ H)\/(J.go i H/\∃N:St->Hp->Prop,(∀σ' H',N σ' H'->∃m',m' < m/\W (i+1) m' σ' H')/\∀x H',J.mE i H x H'->g x σ H' λσ2 H2=>tb { D with nx:=N,ct:=N,bk:=D.nx } σ2 H2)
def pF (fp:List Addr)(h:Heap):List (Addr×Obj):=fp.filterMap λb=>(h.get? b).map λo=>(b,o)
def g8 {fp:List Addr}{h:Heap}{b:Addr}{o:Obj}(hb:b∈fp)(e:h.get? b=some o):(b,o)∈pF fp h:=List.mem_filterMap.mpr ⟨b,hb,by rw [e];rfl⟩
def Dv {fp:List Addr}{h:Heap}{p:Addr×Obj}(hp:p∈pF fp h):p.1∈fp/\h.get? p.1=some p.2:=by
 obtain⟨b,hb,e⟩:=List.mem_filterMap.mp hp;cases q:h.get? b with
 | none=>rw [q] at e;cases e
 | some o =>
  rw [q] at e;have e':(b,o)=p:=iw e;subst e';exact⟨hb,q⟩
def Inv.pinned {ag:List (Addr×Obj)}{σ:St}{H:Hp}{s:Shared}{fp:List Addr}(I:Inv X ag σ H s)(hf:∀b∈fp,xt X ag H b)(ho:∀b∈fp,∃o,s.heap.get? b=some o/\∀v,o.data≠.cell v):Inv X (ag++pF fp s.heap) σ H s :=
 I.B_ λp hp=>(cq.mp hp).elim (λz=>I.pin p (fU _ z)) λz=>by
  obtain⟨hb,e⟩:=Dv z;obtain⟨f0,f1,f2,_⟩:=hf p.1 hb;obtain⟨o,e',d⟩:=ho p.1 hb;rw [e] at e';cases e';exact⟨e,f0,f1,f2,d⟩
def Inv.kU {ag pl:List (Addr×Obj)}{σ:St}{H:Hp}{s:Shared}(I:Inv X (ag++pl) σ H s):Inv X ag σ H s:=I.B_ λp hp=>I.pin p (fU _ (iH _ hp))
def bK {iter:Expr}{body:List Stmt}{wi:TI}{g:TG}{tb:TS}{pos:Pos}(hp:PassesOwn (model X.prog X.w) X.A X.env X.xe)(hc:X.calm=true)(hi:PI X tg iter wi)(hg:PG X tg g)(hb:Bm X body tb)
  (hs:∀x,foldedSetIterable iter X.env x=pure x:=by intro _;rfl):PS X (.For tg iter body [] pos) (U7 wi g tb):=by
 intro ag s σ H D I h;refine wpAny_For (cX (hi ag s σ H _ I h) λv s1 h1=>cX h1 λTB s2 h2=>?_) hs;obtain⟨it,fp,tn,J,H2,e,I2,T,EM,f2,W,⟨m0,w0⟩,turn⟩:=h2;subst e;have rR:∀{H':Hp},(∀b∈fp,H' b=none)->∀b∈fp,xt X ag H' b:=λhn b hb=>⟨hn b hb,(f2 b hb).2⟩;refine codeAny_forLoop_any (λn s'=>∃i σ' H',Inv X ag σ' H' s'/\tn i s'.heap/\(∀b∈fp,H' b=none)/\W i n σ' H') ?_ m0 ⟨0,σ,H2,I2,EM,λb hb=>(f2 b hb).1,w0⟩;rintro n s3 ⟨i,σ3,H3,I3,P6,fr3,w3⟩;rcases turn i n σ3 H3 w3 with ⟨stop,qn⟩ | ⟨go,N,hN,step⟩
 .refine mv hp (cX (T.done X rfl rfl rfl hc i ag s3 σ3 H3 X.xe I3 (rR fr3) P6 stop) λr s4 ⟨hr,I4⟩=>?_);subst hr;exact wpAny_execs_nil ⟨σ3,H3,I4,qn⟩
 refine mv hp (cX (T.item X rfl rfl rfl hc i ag s3 σ3 H3 X.xe I3 (rR fr3) P6 go) λr s4 ⟨u,hr,h4⟩=>?_);subst hr;refine mv hp (cX h4 λ_ s5 bx=>?_);obtain⟨x,H5,I5,r5,y5,CT,RO⟩:=bx;have I5':=I5.pinned (rR RO) (T.obj _ _ CT);refine mv hp (cX (hg _ s5 σ3 H5 x u _ I5' r5 (step x H5 y5)) λ_ s6 bx=>?_);obtain⟨σ6,H6,I6,q6⟩:=bx;refine mv hp (cX (hb _ s6 σ6 H6 _ I6 q6) λf s7 q7=>?_);have again:∀{σ7:St}{H7:Hp},Inv X (ag++pF fp s5.heap) σ7 H7 s7->N σ7 H7->∃m,m < n/\∃i σ' H',Inv X ag σ' H' s7/\tn i s7.heap/\(∀b∈fp,H' b=none)/\W i m σ' H':=λ{σ7 H7} I7 n7=>by
  obtain⟨m',hm,w7⟩:=hN σ7 H7 n7;refine⟨m',hm,i+1,σ7,H7,I7.kU,T.keep _ _ _ CT λb hb o e=>(I7.pin (b,o) (fU _ (fU _ (g8 hb e)))).1,λb hb=>?_,w7⟩;obtain⟨o,e,d⟩:=T.obj _ _ CT b hb;exact(I7.pin (b,o) (fU _ (fU _ (g8 hb e)))).2.1
 cases f with
 | next=>obtain⟨σ7,H7,I7,n7⟩:=q7;exact again I7 n7
 | cont=>obtain⟨σ7,H7,I7,n7⟩:=q7;exact again I7 n7
 | brk=>obtain⟨σ7,H7,I7,q7⟩:=q7;exact⟨σ7,H7,I7.kU,q7⟩
 | ret v=>obtain⟨x7,σ7,H7,I7,r7,q7⟩:=q7;exact⟨x7,σ7,H7,I7.kU,r7,q7⟩
end
def cR {K:a8}{a:Addr}{xs:List V}{g:TG}{tb:TS}{D:Ends}{σ:St}{H:Hp}(Pv:Nat->St->Hp->Prop)(h0:Pv 0 σ H)(hl:∀i σ H,i<=xs.length->Pv i σ H->aG K H a xs)
  (hs:∀i x σ H,xs[i]?=some x->Pv i σ H->g x σ H λσ2 H2=>tb { D with nx:=Pv (i+1),ct:=Pv (i+1),bk:=D.nx } σ2 H2)(hd:∀σ H,Pv xs.length σ H->D.nx σ H) :
  ∃W:Nat->Nat->St->Hp->Prop,(∃m,W 0 m σ H)/\∀i m σ H,W i m σ H ->
   ((kn K a).stop i H/\D.nx σ H)\/((kn K a).go i H/\∃N:St->Hp->Prop,(∀σ' H',N σ' H'->∃m',m' < m/\W (i+1) m' σ' H')/\∀x H',(kn K a).mE i H x H'->g x σ H' λσ2 H2=>tb { D with nx:=N,ct:=N,bk:=D.nx } σ2 H2):=by
 refine⟨λi m σ H=>m=xs.length - i/\i<=xs.length/\Pv i σ H,⟨xs.length,by simp,fj _,h0⟩,?_⟩;rintro i m σ H ⟨rfl,hi,p⟩;have q:=hl i σ H hi p;by_cases je:i < xs.length
 .refine .inr ⟨⟨xs,xs[i],q,by simp [je]⟩,Pv (i+1),λσ' H' p'=>⟨xs.length - (i+1),∅,rfl,je,p'⟩,λx H' y=>?_⟩;obtain⟨e,y⟩:=y;subst e;exact hs i x σ _ (y xs q) p
 have e:i=xs.length:=by omega
 subst e;exact .inl ⟨⟨xs,q,aD _⟩,hd σ H p⟩
def oz {K:a8}{a:Addr}{xs:List V}{g:TG}{tb:TS}{D:Ends}{σ:St}{H:Hp}(Pv:Nat->St->Hp->Prop)(h0:Pv 0 σ H)(hl:∀i σ H,i<=xs.length->Pv i σ H->aR K H a xs)
  (hs:∀i x σ H,xs[i]?=some x->Pv i σ H->g x σ H λσ2 H2=>tb { D with nx:=Pv (i+1),ct:=Pv (i+1),bk:=D.nx } σ2 H2)(hd:∀σ H,Pv xs.length σ H->D.nx σ H) :
  ∃W:Nat->Nat->St->Hp->Prop,(∃m,W 0 m σ H)/\∀i m σ H,W i m σ H ->
   ((oJ K a).stop i H/\D.nx σ H)\/((oJ K a).go i H/\∃N:St->Hp->Prop,(∀σ' H',N σ' H'->∃m',m' < m/\W (i+1) m' σ' H')/\∀x H',(oJ K a).mE i H x H'->g x σ H' λσ2 H2=>tb { D with nx:=N,ct:=N,bk:=D.nx } σ2 H2):=by
 refine⟨λi m σ H=>m=xs.length - i/\i<=xs.length/\Pv i σ H,⟨xs.length,by simp,fj _,h0⟩,?_⟩;rintro i m σ H ⟨rfl,hi,p⟩;have q:=hl i σ H hi p;by_cases je:i < xs.length
 .refine .inr ⟨⟨xs,xs[i],q,by simp [je]⟩,Pv (i+1),λσ' H' p'=>⟨xs.length - (i+1),∅,rfl,je,p'⟩,λx H' y=>?_⟩;obtain⟨e,y⟩:=y;subst e;exact hs i x σ _ (y xs q) p
 have e:i=xs.length:=by omega
 subst e;exact .inl ⟨⟨xs,q,aD _⟩,hd σ H p⟩
def g_ {lo:Int}{n:Nat}{g:TG}{tb:TS}{D:Ends}{σ:St}{H:Hp}(Pv:Nat->St->Hp->Prop)(h0:Pv 0 σ H)
  (hs:∀i σ H,i < n->Pv i σ H->g (.int (lo+i)) σ H λσ2 H2=>tb { D with nx:=Pv (i+1),ct:=Pv (i+1),bk:=D.nx } σ2 H2)(hd:∀σ H,Pv n σ H->D.nx σ H) :
  ∃W:Nat->Nat->St->Hp->Prop,(∃m,W 0 m σ H)/\∀i m σ H,W i m σ H ->
   ((KQ lo n).stop i H/\D.nx σ H)\/((KQ lo n).go i H/\∃N:St->Hp->Prop,(∀σ' H',N σ' H'->∃m',m' < m/\W (i+1) m' σ' H')/\∀x H',(KQ lo n).mE i H x H'->g x σ H' λσ2 H2=>tb { D with nx:=N,ct:=N,bk:=D.nx } σ2 H2):=by
 refine⟨λi m σ H=>m=n - i/\i<=n/\Pv i σ H,⟨n,by simp,fj _,h0⟩,?_⟩;rintro i m σ H ⟨rfl,hi,p⟩;by_cases je:i < n
 .refine .inr ⟨je,Pv (i+1),λσ' H' p'=>⟨n - (i+1),∅,rfl,je,p'⟩,λx H' y=>?_⟩;obtain⟨e,y⟩:=y;subst e y;exact hs i σ _ je p
 have e:i=n:=by omega
 subst e;exact .inl ⟨aD _,hd σ H p⟩
abbrev R2:=V->V->Hp->VK->Prop
def kJ (X:Cx)(f:Value->Value->Sem Value)(r:R2):Prop :=
 ∀(ag:List (Addr×Obj))(s:Shared)(σ:St)(H:Hp)(x y:V)(v u:Value)(Q:VK),Inv X ag σ H s->RelV x v->RelV y u->r x y H Q ->
  wpAny (model X.prog X.w) X.A (f v u) (EP X ag σ Q) X.xe s
def YB (X:Cx)(f:Value->Sem Value)(r:V->Hp->VK->Prop):Prop :=
 ∀(ag:List (Addr×Obj))(s:Shared)(σ:St)(H:Hp)(x:V)(v:Value)(Q:VK),Inv X ag σ H s->RelV x v->r x H Q ->
  wpAny (model X.prog X.w) X.A (f v) (EP X ag σ Q) X.xe s
def ij (X:Cx)(f:Value)(r:List V->Hp->VK->Prop):Prop :=
 ∀(ag:List (Addr×Obj))(s:Shared)(σ:St)(H:Hp)(xs:List V)(us:List Value)(Q:VK),Inv X ag σ H s->aY xs us->r xs H Q ->
  wpAny (model X.prog X.w) X.A (call f us) (EP X ag σ Q) X.xe s
def YC (X:Cx)(r:V->Hp->(Bool->Hp->Prop)->Prop):Prop :=
 ∀(ag:List (Addr×Obj))(s:Shared)(σ:St)(H:Hp)(x:V)(v:Value)(Q:Bool->Hp->Prop),Inv X ag σ H s->RelV x v->r x H Q ->
  wpAny (model X.prog X.w) X.A (truthy v) (TP X ag σ Q) X.xe s
def SW (r:R2)(ta tb:TE):TE:=λσ H Q=>ta σ H λx H1=>tb σ H1 λy H2=>r x y H2 Q
def tUn (r:V->Hp->VK->Prop)(ta:TE):TE:=λσ H Q=>ta σ H λx H1=>r x H1 Q
def rI (C:Int->Int->Prop)(g:Int->Int->V):R2:=λx y H Q=>XI2 x y C λi j=>Q (g i j) H
def MT (g:Int->Int->V):R2:=λx y H Q=>XI0 x y λi j=>Q (g i j) H
def rU (g:Int->V):V->Hp->VK->Prop:=λx H Q=>∃i,x=.int i/\Q (g i) H
section
variable {X:Cx}{a b c:Expr}{ta tb tc:TE}{pos:Pos}
def OA (ha:PE X a ta)(hb:PE X b tb){ag:List (Addr×Obj)}{s:Shared}{σ:St}{H:Hp}{R:V->V->Hp->Prop}(I:Inv X ag σ H s)
  (h:ta σ H λx H1=>tb σ H1 λy H2=>R x y H2){Q:Value->Shared->Prop}{f:Value->Value->Sem Value}
  (hf:∀v u s2 x y H2,Inv X ag σ H2 s2->RelV x v->RelV y u->R x y H2->wpAny (model X.prog X.w) X.A (f v u) Q X.xe s2) :
  wpAny (model X.prog X.w) X.A (eval a X.env) (λv s₁=>wpAny (model X.prog X.w) X.A (eval b X.env) (λu s₂=>wpAny (model X.prog X.w) X.A (f v u) Q X.xe s₂) X.xe s₁) X.xe s:=by
 refine cX (ha ag s σ H _ I h) λv s1 bx=>?_;obtain⟨x,H1,I1,r1,q1⟩:=bx;refine cX (hb ag s1 σ H1 _ I1 q1) λu s2 bx=>?_;obtain⟨y,H2,I2,r2,q2⟩:=bx;exact hf v u s2 x y H2 I2 r1 r2 q2
def aZ {op:Operator}{r:R2}(ho:kJ X (binaryOp op) r)(ha:PE X a ta)(hb:PE X b tb):PE X (.BinOp a op b pos) (SW r ta tb):=by
 intro ag s σ H Q I h;exact wpAny_BinOp (OA ha hb I h λv u s2 x y H2 I2 rx ry q=>ho ag s2 σ H2 x y v u Q I2 rx ry q)
def l7 {op:UnaryOp}{r:V->Hp->VK->Prop}(ho:YB X (unaryOp op) r)(ha:PE X a ta):PE X (.UnaryOp op a pos) (tUn r ta):=by
 intro ag s σ H Q I h;refine UnaryOp_ (cX (ha ag s σ H _ I h) λv s1 bx=>?_);obtain⟨x,H1,I1,r1,q1⟩:=bx;exact ho ag s1 σ H1 x v Q I1 r1 q1
def Vy {f:Value->Value->Sem Value}{C:Int->Int->Prop}{g:Int->Int->Int}
  (rule:∀(i j:Int)(t u:Tok)(s:Shared)(Q:Value->Shared->Prop)(E:Value->Shared->Prop),C i j->Q (.int (g i j) s.toks) { s with toks:=s.toks+1 }->wpAny (model X.prog X.w) X.A (f (.int i t) (.int j u)) Q E s) :
  kJ X f (rI C λi j=>.int (g i j)):=by
 intro ag s σ H x y v u Q I rx ry h;obtain⟨i,j,rfl,rfl,hc,q⟩:=h;obtain⟨t,rfl⟩:=rx;obtain⟨t',rfl⟩:=ry;exact rule i j t t' s _ _ hc ⟨.int (g i j),H,I.tok _,⟨_,rfl⟩,q⟩
def Qr {f:Value->Value->Sem Value}{g:Int->Int->Int}
  (rule:∀(i j:Int)(t u:Tok)(s:Shared)(Q:Value->Shared->Prop)(E:Value->Shared->Prop),Q (.int (g i j) s.toks) { s with toks:=s.toks+1 }->wpAny (model X.prog X.w) X.A (f (.int i t) (.int j u)) Q E s) :
  kJ X f (MT λi j=>.int (g i j)):=by
 intro ag s σ H x y v u Q I rx ry h;obtain⟨i,j,rfl,rfl,q⟩:=h;obtain⟨t,rfl⟩:=rx;obtain⟨t',rfl⟩:=ry;exact rule i j t t' s _ _ ⟨.int (g i j),H,I.tok _,⟨_,rfl⟩,q⟩
def M5 {f:Value->Value->Sem Value}{g:Int->Int->Bool}
  (rule:∀(i j:Int)(t u:Tok)(s:Shared)(Q:Value->Shared->Prop)(E:Value->Shared->Prop),Q (.bool (g i j)) s->wpAny (model X.prog X.w) X.A (f (.int i t) (.int j u)) Q E s) :
  kJ X f (MT λi j=>.bl (g i j)):=by
 intro ag s σ H x y v u Q I rx ry h;obtain⟨i,j,rfl,rfl,q⟩:=h;obtain⟨t,rfl⟩:=rx;obtain⟨t',rfl⟩:=ry;exact rule i j t t' s _ _ ⟨.bl (g i j),H,I,rfl,q⟩
def YN (i j:Int):Prop:=0 < j/\j < 1073741824
def OI (i j:Int):Prop:=(-(2 ^ 64) < i/\i < 2 ^ 64)\/(-(2 ^ 64) < j/\j < 2 ^ 64)
def OI.ok {i j:Int}(h:OI i j):IntMulOk i j:=by
 rcases h with ⟨h1,h2⟩ | ⟨h1,h2⟩
 .exact .of_left (intBits_le_64 h1 h2)
 exact .of_right (intBits_le_64 h1 h2)
def fZ:kJ X (binaryOp .Add) (MT λi j=>.int (i+j)):=Qr λ_ _ _ _ _ _ _ q=>add_int q
def Ap:kJ X (binaryOp .Sub) (MT λi j=>.int (i - j)):=Qr λ_ _ _ _ _ _ _ q=>sub_int q
def Ar:kJ X (binaryOp .Mult) (rI OI λi j=>.int (i * j)):=Vy λ_ _ _ _ _ _ _ hc q=>mul_int q hc.ok
def fR:kJ X (binaryOp .FloorDiv) (rI YN λi j=>.int (i / j)):=Vy λi j _ _ _ _ _ hc q=>by
 have h1:(0:Int) < j:=hc.1;have h2:j < 1073741824:=hc.2;exact floordiv_int ∅ (by rw [Int.fdiv_eq_ediv_of_nonneg i ∅];exact q) (.inl (PyProof.noPylong_small ∅))
def fK:kJ X (binaryOp .Mod) (rI (λ_ j=>0 < j) λi j=>.int (i % j)):=Vy λi j _ _ _ _ _ hc q=>by
 have h1:(0:Int) < j:=hc;exact mod_int' ∅ (by rw [Int.fmod_eq_emod_of_nonneg i ∅];exact q)
def unI {f:Value->Sem Value}{g:Int->Int}
  (rule:∀(i:Int)(t:Tok)(s:Shared)(Q:Value->Shared->Prop)(E:Value->Shared->Prop),Q (.int (g i) s.toks) { s with toks:=s.toks+1 }->wpAny (model X.prog X.w) X.A (f (.int i t)) Q E s) :
  YB X f (rU λi=>.int (g i)):=by
 intro ag s σ H x v Q I rx h;obtain⟨i,rfl,q⟩:=h;obtain⟨t,rfl⟩:=rx;exact rule i t s _ _ ⟨.int (g i),H,I.tok _,⟨_,rfl⟩,q⟩
def ja:YB X (unaryOp .USub) (rU λi=>.int (-i)):=unI λ_ _ _ _ _ q=>neg_int q
end
def P_:V->V->Bool
 | .eV,.eV=>true | .eV,.int _=>true | .int _,.eV=>true | .eV,.bl _=>true | .bl _,.eV=>true | .eV,.str _=>true | .str _,.eV=>true
 | .int _,.int _=>true | .bl _,.bl _=>true | .str _,.str _=>true | .Bh _,.Bh _=>true
 | .int _,.str _=>true | .str _,.int _=>true | .bl _,.str _=>true | .str _,.bl _=>true
 | _,_=>false
def rEq:R2:=λx y H Q=>P_ x y=true/\Q (.bl (decide (x=y))) H
def rNe:R2:=λx y H Q=>P_ x y=true/\Q (.bl (!decide (x=y))) H
def Cu {i j:Int}:decide (V.int i=V.int j)=(i == j):=by
 rw [ng];simp
def Ic {i j:Bool}:decide (V.bl i=V.bl j)=(i == j):=by
 rw [ng];simp
def Ct {i j:Str}:decide (V.str i=V.str j)=(i == j):=by
 rw [ng];simp
def Cv {i j:Array UInt8}:decide (V.Bh i=V.Bh j)=(i.toList == j.toList):=by
 rw [ng];cases i;cases j;simp
section
variable {X:Cx}{a b c:Expr}{ta tb tc:TE}{pos:Pos}
def cx {ag:List (Addr×Obj)}{σ:St}{H:Hp}{s:Shared}{Q:VK}{k k':Bool}(I:Inv X ag σ H s)(q:Q (.bl k) H)(e:k=k'):EP X ag σ Q (.bool k') s:=by
 subst e;exact⟨.bl k,H,I,rfl,q⟩
def iO:kJ X (compareOp .Eq) rEq:=by
 intro ag s σ H x y v u Q I rx ry h;obtain⟨hs,q⟩:=h;cases x with
 | eV =>
  cases rx;cases y with
  | eV=>cases ry;exact PySem.EqNone.eq_none_none (cx I q (by simp))
  | bl j=>cases ry;exact PySem.EqNone.eq_none_bool (cx I q (by simp))
  | int j=>obtain⟨t',rfl⟩:=ry;exact PySem.EqNone.eq_none_int (cx I q (by simp))
  | str j=>obtain⟨t',rfl⟩:=ry;exact PySem.EqNone.eq_none_str (cx I q (by simp))
  | _=>exact absurd (show false=true from hs) c_
 | bl i =>
  cases rx;cases y with
  | eV=>cases ry;exact PySem.EqNone.eq_bool_none (cx I q (by simp))
  | bl j=>cases ry;exact eq_bool (cx I q Ic)
  | str j=>obtain⟨t',rfl⟩:=ry;exact PySem.EqMixed.eq_bool_str (cx I q (by simp))
  | _=>exact absurd (show false=true from hs) c_
 | int i =>
  obtain⟨t,rfl⟩:=rx;cases y with
  | eV=>cases ry;exact PySem.EqNone.eq_int_none (cx I q (by simp))
  | int j=>obtain⟨t',rfl⟩:=ry;exact eq_int (cx I q Cu)
  | str j=>obtain⟨t',rfl⟩:=ry;exact PySem.EqMixed.eq_int_str (cx I q (by simp))
  | _=>exact absurd (show false=true from hs) c_
 | str i =>
  obtain⟨t,rfl⟩:=rx;cases y with
  | eV=>cases ry;exact PySem.EqNone.eq_str_none (cx I q (by simp))
  | bl j=>cases ry;exact PySem.EqMixed.eq_str_bool (cx I q (by simp))
  | int j=>obtain⟨t',rfl⟩:=ry;exact PySem.EqMixed.eq_str_int (cx I q (by simp))
  | str j=>obtain⟨t',rfl⟩:=ry;exact eq_str (cx I q Ct)
  | _=>exact absurd (show false=true from hs) c_
 | Bh i =>
  obtain⟨t,rfl⟩:=rx;cases y with
  | Bh j=>obtain⟨t',rfl⟩:=ry;exact PySem.W.eq_bytes (cx I q Cv)
  | _=>exact absurd (show false=true from hs) c_
 | _=>cases y <;> exact absurd (show false=true from hs) c_
def Ce:kJ X (compareOp .NotEq) rNe:=by
 intro ag s σ H x y v u Q I rx ry h;obtain⟨hs,q⟩:=h;cases x with
 | eV =>
  cases rx;cases y with
  | eV=>cases ry;exact PySem.EqNone.ne_none_none (cx I q (by simp))
  | bl j=>cases ry;exact PySem.EqNone.ne_none_bool (cx I q (by simp))
  | int j=>obtain⟨t',rfl⟩:=ry;exact PySem.EqNone.ne_none_int (cx I q (by simp))
  | str j=>obtain⟨t',rfl⟩:=ry;exact PySem.EqNone.ne_none_str (cx I q (by simp))
  | _=>exact absurd (show false=true from hs) c_
 | bl i =>
  cases rx;cases y with
  | eV=>cases ry;exact PySem.EqNone.ne_bool_none (cx I q (by simp))
  | bl j=>cases ry;exact ne_bool (cx I q (congrArg not Ic))
  | str j=>obtain⟨t',rfl⟩:=ry;exact PySem.EqMixed.ne_bool_str (cx I q (by simp))
  | _=>exact absurd (show false=true from hs) c_
 | int i =>
  obtain⟨t,rfl⟩:=rx;cases y with
  | eV=>cases ry;exact PySem.EqNone.ne_int_none (cx I q (by simp))
  | int j=>obtain⟨t',rfl⟩:=ry;exact ne_int (cx I q (congrArg not Cu))
  | str j=>obtain⟨t',rfl⟩:=ry;exact PySem.EqMixed.ne_int_str (cx I q (by simp))
  | _=>exact absurd (show false=true from hs) c_
 | str i =>
  obtain⟨t,rfl⟩:=rx;cases y with
  | eV=>cases ry;exact PySem.EqNone.ne_str_none (cx I q (by simp))
  | bl j=>cases ry;exact PySem.EqMixed.ne_str_bool (cx I q (by simp))
  | int j=>obtain⟨t',rfl⟩:=ry;exact PySem.EqMixed.ne_str_int (cx I q (by simp))
  | str j=>obtain⟨t',rfl⟩:=ry;exact ne_str (cx I q (congrArg not Ct))
  | _=>exact absurd (show false=true from hs) c_
 | Bh i =>
  obtain⟨t,rfl⟩:=rx;cases y with
  | Bh j=>obtain⟨t',rfl⟩:=ry;exact PySem.W.ne_bytes (cx I q (congrArg not Cv))
  | _=>exact absurd (show false=true from hs) c_
 | _=>cases y <;> exact absurd (show false=true from hs) c_
def qi:kJ X (compareOp .Lt) (MT λi j=>.bl (decide (i < j))):=M5 λ_ _ _ _ _ _ _ q=>lt_int q
def Qq:kJ X (compareOp .LtE) (MT λi j=>.bl (decide (i<=j))):=M5 λ_ _ _ _ _ _ _ q=>le_int q
def yh:kJ X (compareOp .Gt) (MT λi j=>.bl (decide (j < i))):=M5 λ_ _ _ _ _ _ _ q=>gt_int q
def kJ.or {f:Value->Value->Sem Value}{r r':R2}(h:kJ X f r)(h':kJ X f r'):kJ X f (λx y H Q=>r x y H Q\/r' x y H Q):=by
 intro ag s σ H x y v u Q I rx ry q;rcases q with q | q
 .exact h ag s σ H x y v u Q I rx ry q
 exact h' ag s σ H x y v u Q I rx ry q
def bW (b:Expr){op:CmpOp}(h:op≠.In:=by decide)(h2:op≠.NotIn:=by decide):behindInMarks op b=false:=by
 have e1:(op == CmpOp.In)=false:=by cases op <;> first | rfl | exact absurd rfl h
 have e2:(op == CmpOp.NotIn)=false:=by cases op <;> first | rfl | exact absurd rfl h2
 cases b <;> simp [behindInMarks,e1,e2]
def fg {op:CmpOp}{r:R2}(ho:kJ X (compareOp op) r)(ha:PE X a ta)(hb:PE X b tb)(hm:behindInMarks op b=false):PE X (.Compare a [op] [b] pos) (SW r ta tb):=by
 intro ag s σ H Q I h;exact wpAny_Compare1 (OA ha hb I h λv u s2 x y H2 I2 rx ry q=>ho ag s2 σ H2 x y v u Q I2 rx ry q) hm
def PH (t:TE):TT:=λσ H Q=>t σ H λx H'=>XB x λk=>Q k H'
def bw {op:CmpOp}{r:R2}(ho:kJ X (compareOp op) r)(ha:PE X a ta)(hb:PE X b tb)(hm:behindInMarks op b=false):PT X (.Compare a [op] [b] pos) (PH (SW r ta tb)):=by
 intro ag s σ H Q I h;refine wpAny_isTrue_Compare1 (cX (ha ag s σ H _ I h) λv s1 ⟨x,H1,I1,r1,q1⟩=>cX (hb ag s1 σ H1 _ I1 q1) λu s2 ⟨y,H2,I2,r2,q2⟩ =>
  cX (ho ag s2 σ H2 x y v u _ I2 r1 r2 q2) λc s3 ⟨z,H3,I3,r3,k,e,q3⟩=>?_) hm
 subst e;cases r3;exact nj ⟨H3,I3,q3⟩
def Mq (r r':R2)(ta tb tc:TE):TE:=λσ H Q=>ta σ H λx H1=>tb σ H1 λy H2=>r x y H2 λz H3=>∃k,z=.bl k /\
 (if k=true then tc σ H3 λw' H4=>r' y w' H4 Q else Q (.bl false) H3)
def Gh {op Vz:CmpOp}{r r':R2}(ho:kJ X (compareOp op) r)(Hq:kJ X (compareOp Vz) r')(ha:PE X a ta)(hb:PE X b tb)(hc:PE X c tc)
  (hm:lastMarks [op,Vz] [b,c]=false:=by with_unfolding_all rfl):PE X (.Compare a [op,Vz] [b,c] pos) (Mq r r' ta tb tc):=by
 intro ag s σ H Q I h;refine Compare_chain (cX (ha ag s σ H _ I h) λv s1 ⟨x,H1,I1,r1,q1⟩=>chain_link (cX (hb ag s1 σ H1 _ I1 q1) λu s2 ⟨y,H2,I2,r2,q2⟩ =>
  cX (ho ag s2 σ H2 x y v u _ I2 r1 r2 q2) λd s3 ⟨z,H3,I3,r3,k,e,q3⟩=>?_)) hm
 subst e;cases r3;refine nj ?_;cases k with
 | false=>exact ite_ff ⟨.bl false,H3,I3,rfl,q3⟩
 | true=>exact ite_tt (chain_last (cX (hc ag s3 σ H3 _ I3 q3) λw' s4 ⟨z',H4,I4,r4,q4⟩=>Hq ag s4 σ H4 y z' u w' Q I4 r2 r4 q4))
def Iu (K:a8)(x:V)(H:Hp)(k:Bool):Prop :=
 match x with
 | .eV=>k=false
 | .bl b=>k=b
 | .int i=>k=(i != 0)
 | .str y=>y.length<=sizeLine/\k=((y.length:Int) != 0)
 | .Bh y=>y.size<=sizeLine/\k=((y.size:Int) != 0)
 | .ref p=>(∃xs,aG K H p xs/\k=!xs.isEmpty)\/(∃xs,aR K H p xs/\k=!xs.isEmpty)\/∃kvs,H p=some (.dK kvs)/\k=!kvs.isEmpty
 | _=>False
def AM {κ:Type}{kvs:List (κ×V)}{vs:List (κ×Value)}(r:KV kvs vs):(!vs.isEmpty)=!kvs.isEmpty:=by
 cases r <;> rfl
def sP {xs:List V}{aN:List Value}(r:aY xs aN):(!aN.toArray.isEmpty)=!xs.isEmpty:=by
 cases r <;> simp
def wU:(sizeLine:Nat) < 2 ^ 63:=by rw [sizeLine_eq];decide
def Mj:YC X (λx H Q=>∃k,Iu X.K x H k/\Q k H):=by
 intro ag s σ H x v Q I rx h;obtain⟨k,e,q⟩:=h;have hl:=wU;have hs:sizeLine=16777216:=sizeLine_eq;cases x with
 | eV =>
  cases rx;have e':k=false:=e;subst e';exact truthy_none ⟨H,I,q⟩
 | bl b =>
  cases rx;have e':k=b:=e;subst e';exact nj ⟨H,I,q⟩
 | int i =>
  obtain⟨t,rfl⟩:=rx;have e':k=(i != 0):=e;subst e';exact PySem.P.truthy_int ⟨H,I,q⟩
 | str y =>
  obtain⟨t,rfl⟩:=rx;obtain⟨hy,e'⟩:y.length<=sizeLine/\k=((y.length:Int) != 0):=e;subst e';exact PySem.P.truthy_str ∅ ⟨H,I.tok _,q⟩
 | Bh y =>
  obtain⟨t,rfl⟩:=rx;obtain⟨hy,e'⟩:y.size<=sizeLine/\k=((y.size:Int) != 0):=e;subst e';exact PySem.W.truthy_bytes ∅ ⟨H,I.tok _,q⟩
 | ref p =>
  cases rx;have e':(∃xs,aG X.K H p xs/\k=!xs.isEmpty)\/(∃xs,aR X.K H p xs/\k=!xs.isEmpty)\/∃kvs,H p=some (.dK kvs)/\k=!kvs.isEmpty:=e;rcases e' with ⟨xs,hx,e'⟩ | ⟨xs,hx,e'⟩ | ⟨kvs,hx,e'⟩
  .subst e';obtain⟨aN,r,pl,hz⟩:=I.list hx;have br:=r.length;exact wpAny_truthy_list pl.isList (by simp only [bO];omega) ⟨H,I.tok _,by rw [sP r];exact q⟩
  .subst e';obtain⟨aN,r,pl,hz⟩:=I.tuple hx;have br:=r.length;exact truthy_tuple pl (by simp only [bO];omega) ⟨H,I.tok _,by rw [sP r];exact q⟩
  subst e';obtain⟨hz,hS,vs,r,m⟩:kvs.length<=sizeLine/\(p == sysModules)=false/\∃vs,KV kvs vs/\s.heap.DictOf (bh X.prog X.w) p vs:=I.bZ p _ hx;have br:kvs.length=vs.length:=a_ r;exact wpAny_truthy_dict hS m ∅ ⟨H,I.tok _,by rw [AM r];exact q⟩
 | _=>exact(show False from e).elim
def iL (ha:PE X a ta)(he:∀whole,isTrue a X.env whole=(do let v <-whole;standAt a.pos;holding [v] (truthy v))) :
  PT X a (λσ H Q=>ta σ H λx H'=>∃k,Iu X.K x H' k/\Q k H'):=by
 intro ag s σ H Q I h;refine isTrue_plain (cX (ha ag s σ H _ I h) λv s1 bx=>?_) (he _);obtain⟨x,H1,I1,r1,q1⟩:=bx;exact Mj ag s1 σ H1 x v Q I1 r1 q1
def As:kJ X (binaryOp .Add) (λx y H Q=>∃i j,x=.str i/\y=.str j/\i.length+j.length<=sizeLine/\Q (.str (i++j)) H):=by
 intro ag s σ H x y v u Q I rx ry h;obtain⟨i,j,rfl,rfl,hz,q⟩:=h;obtain⟨t,rfl⟩:=rx;obtain⟨t',rfl⟩:=ry;exact add_str (λt' tk=>⟨.str (i++j),H,I.tok _,⟨_,rfl⟩,q⟩) hz
def vals1 {x:V}{us:List Value}(r:aY [x] us):∃u,us=[u]/\RelV x u:=by
 cases r with
 | cons r1 r2=>cases r2;exact⟨_,rfl,r1⟩
def vals2 {x y:V}{us:List Value}(r:aY [x,y] us):∃u w',us=[u,w']/\RelV x u/\RelV y w':=by
 cases r with
 | cons r1 r2 =>
  cases r2 with
  | cons r3 r4=>cases r4;exact⟨_,_,rfl,r1,r3⟩
def EA (hc:X.calm=true):ij X (.builtin "max") (λxs H Q=>∃i j,xs=[.int i,.int j]/\Q (.int (if j > i then j else i)) H):=by
 intro ag s σ H xs us Q I r h;obtain⟨i,j,rfl,q⟩:=h;obtain⟨u,w',rfl,⟨t,rfl⟩,⟨t',rfl⟩⟩:=vals2 r;refine max_two_ints (I.ok.hd hc) λh' tk k=>⟨_,H,I.kept k,?_,q⟩;by_cases hj:j > i
 .rw [ax hj,ax hj];exact⟨_,rfl⟩
 rw [aw hj,aw hj];exact⟨_,rfl⟩
end
structure Bn (h:Heap)(x dx C:Addr)(mA:Str->Option Value):Prop where
 obj:h.get? x=some (PySem.W.instObj C dx)
 ns:h.Ns1 dx mA
 ne:dx≠x
def DA {h:Heap}{dx:Addr}{mA:Str->Option Value}(n:h.Ns1 dx mA):∃od,h.get? dx=some od/\∀name,PySem.W.lookIn name od=some (mA name):=by
 obtain⟨o,es,ep,ho,hd,hk,_,hm⟩:=n;refine⟨o,ho,λname=>?_⟩;have e:=hm name;unfold nsFind findBy at e;rw [<-Array.find?_toList] at e;unfold PySem.W.lookIn;rw [hd];dsimp only
 split
 .rename_i y q
  rw [q] at e;exact congrArg some e
 rename_i q
 rw [q] at e;have a:es.toList.any (·.refKey)=false:=by
  rw [List.any_eq_false];intro y hy;obtain⟨z,t,Kf⟩:=hk y (Array.mem_toList_iff.mp hy);simp [DictEntry.refKey,Kf]
 have a':¬es.toList.any (·.refKey)=true:=by rw [a];exact c_
 rw [aw a'];exact congrArg some e
def Bn.look {h:Heap}{x dx C:Addr}{mA:Str->Option Value}(I:Bn h x dx C mA):∃od,PySem.W.InstAt h x (PySem.W.instObj C dx) C (some od)/\∀name,PySem.W.lookIn name od=some (mA name) :=
 let ⟨od,ho,hl⟩:=DA I.ns
 ⟨od,⟨I.obj,rfl,rfl,ho⟩,hl⟩
section
variable {prog:Program}{w:World}{A:Around}{E:Value->Shared->Prop}{s:Shared}{K:a8}{x dx C f:Addr}{mA:Str->Option Value}{name:Str}{v:Value}
def get_map {expr:Bool}{Q:Value->Shared->Prop}(X:K.In s.heap)(I:Bn s.heap x dx C mA)(hg:PySem.W.plainGet K C name=true)(hh:PySem.W.hasDictIn K C=true)
  (ha:PySem.W.findIn K (.ref C) name=some none)(hv:mA name=some v)(hv':PySem.W.handedIn v=true)(h:Q v { s with toks:=s.toks+1 }) :
  wpAny (model prog w) A (getAttr (.ref x) name expr) Q E s:=by
 obtain⟨od,J,hl⟩:=I.look;exact PySem.W.get_value X J (PySem.W.plainGet_of hg).1 (PySem.W.findObj_own hh ha rfl (by rw [hl,hv])) hv' h
def HJ {pl:Sem Bool}{Q:Value×List Value->Shared->Prop}(X:K.In s.heap)(I:Bn s.heap x dx C mA)(hg:PySem.W.plainGet K C name=true)
  (hf:PySem.W.findIn K (.ref C) name=some (some (.ref f)))(ht:PySem.W.isFn K (.ref f)=true)(hv:mA name=none)(h:Q (.ref f,[.ref x]) s) :
  wpAny (model prog w) A (getMethod (.ref x) name pl) Q E s:=by
 obtain⟨od,J,hl⟩:=I.look;exact PySem.W.method_fn X J (PySem.W.plainGet_of hg).1 (PySem.W.plainGet_of hg).2 hf (beq_iff_eq.mp ht) (by show (PySem.W.lookIn name od).map (·.isSome)=some false;rw [hl,hv];rfl) h
def Jr {ns:List Str}{Q:Unit->Shared->Prop}(X:K.In s.heap)(I:Bn s.heap x dx C mA)
  (hs:PySem.W.findIn K (.ref C) "__setattr__"=some (some (.builtin "object.__setattr__")))(hp:PySem.W.plainOver K C=true)(ht:PySem.W.takerIn K C name=some none)(hh:PySem.W.hasDictIn K C=true)
  (hw:PySem.Within mA ns)(hsz:ns.length<=sizeLine)
  (h:∀h',Bn h' x dx C (λy=>if y=name then some v else mA y)->Heap.SameBut dx s.heap h'->Q () { s with heap:=h',toks:=s.toks+2 }) :
  wpAny (model prog w) A (setAttr (.ref x) name v) Q E s:=by
 obtain⟨od,J,hl⟩:=I.look;refine PySem.W.set_plain X J hs (PySem.W.osa_open (s:={ s with toks:=s.toks+1 }) (r:=none) X J hp ht λb=>?_);obtain⟨cd,hc,DR⟩:=PySem.W.any_some hh;have hx:s.heap.get? x=some ⟨.ref C,some dx,.plain,#[]⟩:=I.obj;refine aq (aH (aq (aq (wpAny_loadPart hx (aq (PySem.W.Looks.here (s:={ s with toks:=s.toks+1 }) (PySem.W.looks_clsIn X hc) ?_))))));rw [DR];refine aH (a:=some dx) (aq (aH (aq ?_)));refine wpAny_nsSet1 (s:={ s with toks:=s.toks+1 }) I.ns λh' Hs TJ=>?_;obtain⟨oD,esD,epD,hoD,hdD,hcD⟩:=Hs.count (PySem.Within.cons name v hw);refine aq (wpAny_lookBehind hoD (by rw [hdD];exact pastItsLine_dict (dI hcD (by rw [dS];omega))) ?_);exact aH (h _ ⟨(TJ.2 _ (fq I.ne)).trans I.obj,Hs,I.ne⟩ TJ)
def G5 {R:Result->Shared->Prop}{vs:List Value}{kw:List (Str×Value)}(X:K.In s.heap)(hm:PySem.W.makesIn K C=true)
  (hi:PySem.W.findIn K (.ref C) "__init__"=some (some (.ref f)))(hf:PySem.W.typeIn K (.ref f)=some (.type "function"))
  (h:codeAny (model prog w) (A.under (.builtin "type.__call__" ⟨.ref C::vs,kw⟩)) (.call (.ref f) ⟨.ref (s.heap.objs.size+1)::vs,kw⟩) (PySem.W.InitBack (s.heap.objs.size+1) R)
   { s with heap:=(s.heap.push PySem.W.emptyDict).push (PySem.W.instObj C s.heap.objs.size) }) :
  codeAny (model prog w) A (.call (.ref C) ⟨vs,kw⟩) R s:=by
 obtain⟨hh,g,d,t,os⟩:=s;exact PySem.W.make_core (PySem.W.makes_of X hm) (PySem.W.looks_findIn X hi) (λself=>PySem.W.bind_fn X self hf) (.inl rfl) h
end
def dU (f:Str)(v:V):List (Str×V)->List (Str×V)
 | []=>[(f,v)]
 | (g,x)::r=>if g=f then (g,v)::r else (g,x)::dU f v r
theorem qj (f g:Str)(v:V):∀fs:List (Str×V),(dU f v fs).lookup g=if g=f then some v else fs.lookup g
 | []=>by
  show List.lookup g [(f,v)]=_;by_cases h:g=f
  .have hb:(g == f)=true:=beq_iff_eq.mpr h;simp only [List.lookup,hb,ax h]
  have hb:(g == f)=false:=kN.mpr h;simp only [List.lookup,hb,aw h]
 | (k,x)::r=>by
  have ih:=qj f g v r;rw [show dU f v ((k,x)::r)=(if k=f then (k,v)::r else (k,x)::dU f v r) from rfl];by_cases hk:k=f
  .rw [ax hk];by_cases h:g=k
   .have hb:(g == k)=true:=beq_iff_eq.mpr h;simp only [List.lookup,hb,ax (h.trans hk)]
   have hb:(g == k)=false:=kN.mpr h;simp only [List.lookup,hb,aw (λe:g=f=>h (e.trans hk.symm))]
  rw [aw hk];by_cases h:g=k
  .have hb:(g == k)=true:=beq_iff_eq.mpr h;simp only [List.lookup,hb,aw (λe:g=f=>hk (h.symm.trans e))]
  have hb:(g == k)=false:=kN.mpr h;simp only [List.lookup,hb];exact ih
theorem pI (f:Str)(v:V):∀fs:List (Str×V),f∈(dU f v fs).map (·.1)/\∀g,g∈fs.map (·.1)->g∈(dU f v fs).map (·.1)
 | []=>⟨by simp [dU],λg h=>by simp at h⟩
 | (k,x)::r=>by
  obtain⟨i1,i2⟩:=pI f v r;rw [show dU f v ((k,x)::r)=(if k=f then (k,v)::r else (k,x)::dU f v r) from rfl];by_cases hk:k=f
  .rw [ax hk];subst hk;exact⟨by simp,λg h=>by simpa using h⟩
  rw [aw hk];refine⟨?_,λg h=>?_⟩
  .rw [cO];exact cW _ i1
  rw [cO] at h ⊢;rcases bY.mp h with e | e
  .exact bY.mpr (.inl e)
  exact cW _ (i2 g e)
theorem qk (f:Str)(v:V):∀fs:List (Str×V),(dU f v fs).length<=fs.length+1
 | []=>by simp [dU]
 | (k,x)::r=>by
  have ih:=qk f v r;rw [show dU f v ((k,x)::r)=(if k=f then (k,v)::r else (k,x)::dU f v r) from rfl];by_cases hk:k=f
  .rw [ax hk,dS,dS];omega
  rw [aw hk,dS,dS];omega
def jW.some_of {v:V}{o:Option Value}(r:jW (some v) o):∃u,o=some u/\RelV v u:=by
 cases o with
 | none=>exact(show False from r).elim
 | some u=>exact⟨u,rfl,r⟩
def jW.none_of {o:Option Value}(r:jW none o):o=none:=by
 cases o with
 | none=>rfl
 | some u=>exact(show False from r).elim
def DS {v:V}{u:Value}(r:RelV v u):PySem.W.handedIn u=true:=by
 cases v with
 | eV=>cases (show u=Value.none from r);rfl
 | bl b=>cases (show u=Value.bool b from r);rfl
 | int i=>obtain⟨t,e⟩:=(show ∃t,u=Value.int i t from r);cases e;rfl
 | str x=>obtain⟨t,e⟩:=(show ∃t,u=Value.str x t from r);cases e;rfl
 | Bh b=>obtain⟨t,e⟩:=(show ∃t,u=Value.bytes b t from r);cases e;rfl
 | N6 b=>obtain⟨t,e⟩:=(show ∃t,u=Value.float b t from r);cases e;rfl
 | ref a=>cases (show u=Value.ref a from r);rfl
 | ty n=>cases (show u=Value.type n from r);rfl
section
variable {P:Program}{w:World}{H H':Hp}{h h':Heap}{a C dx:Addr}{fs IZ:List (Str×V)}
def wY (bZ:mj P w H h)(e:H a=some (.ins C dx fs)):∃mA,Bn h a dx C mA/\(∀f,jW (fs.lookup f) (mA f))/\PySem.Within mA (fs.map (·.1))/\fs.length<=1000/\H dx=some (.own a):=by
 obtain⟨d,z,ne,ob,mA,n,r,q⟩:=(show cM P w H h a (.ins C dx fs) from bZ a _ e);exact⟨mA,⟨ob,n,ne⟩,r,q,z,d⟩
end
structure EK (K:a8)(C:Addr):Prop where
 pg:PySem.W.plainGet K C Str.empty=true
 hd:PySem.W.hasDictIn K C=true
 po:PySem.W.plainOver K C=true
 sa:PySem.W.findIn K (.ref C) "__setattr__"=some (some (.builtin "object.__setattr__"))
def EK.get {K:a8}{C:Addr}(c:EK K C)(f:Str):PySem.W.plainGet K C f=true:=c.pg
def d5 (K:a8)(C:Addr)(f:Str):Prop:=PySem.W.findIn K (.ref C) f=some none
def d5.PD {K:a8}{C:Addr}{f:Str}(n:d5 K C f):PySem.W.takerIn K C f=some none:=by
 unfold PySem.W.takerIn;rw [show PySem.W.findIn K (.ref C) f=some none from n];rfl
structure Con (K:a8)(C:Addr)(f:Str)(v:V)(u:Value):Prop where
 at_:PySem.W.findIn K (.ref C) f=some (some u)
 rel:RelV v u
 get:PySem.W.specialIn K u "__get__"=some none
 cp:PySem.W.copiedNames.contains f=false
structure Meth (K:a8)(C:Addr)(m:Str)(f:Addr):Prop where
 at_:PySem.W.findIn K (.ref C) m=some (some (.ref f))
 fn:PySem.W.isFn K (.ref f)=true
 kp:PySem.W.keepIn K (.ref f)=true
section
variable {X:Cx}{ag:List (Addr×Obj)}{σ:St}{H:Hp}{s:Shared}{a C dx:Addr}{fs:List (Str×V)}{f:Str}{v:V}{A:Around}{E:Value->Shared->Prop}
def AX {b:Bool}{Q:Value->Shared->Prop}(I:Inv X ag σ H s)(e:H a=some (.ins C dx fs))(c:EK X.K C)(n:d5 X.K C f)(l:fs.lookup f=some v)
  (h:∀u s',Inv X ag σ H s'->RelV v u->Q u s'):wpAny (model X.prog X.w) A (getAttr (.ref a) f b) Q E s:=by
 obtain⟨mA,O,r,_,_,_⟩:=wY I.bZ e;obtain⟨u,hu,ru⟩:=jW.some_of (v:=v) (o:=mA f) (by rw [<-l];exact r f);exact get_map I.wX O (c.get f) c.hd n hu (DS ru) (h u _ (I.tok _) ru)
def sV {m:Str}{g:Addr}{pl:Sem Bool}{Q:Value×List Value->Shared->Prop}(I:Inv X ag σ H s)(e:H a=some (.ins C dx fs))(c:EK X.K C)(k:Meth X.K C m g)(l:fs.lookup m=none)
  (h:Q (.ref g,[.ref a]) s):wpAny (model X.prog X.w) A (getMethod (.ref a) m pl) Q E s:=by
 obtain⟨mA,O,r,_,_,_⟩:=wY I.bZ e;have hn:mA m=none:=jW.none_of (by rw [<-l];exact r m);exact HJ I.wX O (c.get m) k.at_ k.fn hn h
def zT {y:V}{u:Value}{Q:Unit->Shared->Prop}(I:Inv X ag σ H s)(e:H a=some (.ins C dx fs))(c:EK X.K C)(n:d5 X.K C f)(hl:fs.length < 1000)(ry:RelV y u)
  (h:∀s',Inv X ag σ (upd H a (.ins C dx (dU f y fs))) s'->Q () s'):wpAny (model X.prog X.w) A (setAttr (.ref a) f u) Q E s:=by
 obtain⟨mA,O,r,wi,_,ho⟩:=wY I.bZ e;have hz:(fs.map (·.1)).length<=sizeLine:=by rw [av,sizeLine_eq];omega
 refine Jr I.wX O c.sa c.po n.PD c.hd wi hz λh' O' sb=>h _ ?_;have hd:∃o,h'.get? dx=some o:=let ⟨o,_,_,e',_⟩:=O'.ns;⟨o,e'⟩;refine I.write (x:=a) (e:=dx) (by rw [e];exact True.intro) (.inr ho) (λb q hb z=>(sb.2 b hb).trans z) hd ?_;refine⟨by rw [ai O.ne];exact ho,?_,O.ne,O'.obj,_,O'.ns,λg=>?_,λg hg=>?_⟩
 .have:=qk f y fs;omega
 .show jW ((dU f y fs).lookup g) (if g=f then some u else mA g);rw [qj];by_cases q:g=f
  .rw [ax q,ax q];exact ry
  rw [aw q,aw q];exact r g
 by_cases q:g=f
 .rw [q];exact(pI f y fs).1
 refine(pI f y fs).2 g (wi g λz=>hg ?_);show (if g=f then some u else mA g)=none;rw [aw q];exact z
def Inv.made (I:Inv X ag σ H s):Inv X ag σ (upd (upd H s.heap.objs.size (.own (s.heap.objs.size+1))) (s.heap.objs.size+1) (.ins C s.heap.objs.size []))
  { s with heap:=(s.heap.push PySem.W.emptyDict).push (PySem.W.instObj C s.heap.objs.size) }:=by
 have e1:(s.heap.push PySem.W.emptyDict).get? s.heap.objs.size=some PySem.W.emptyDict:=cA s.heap rfl;have e2:((s.heap.push PySem.W.emptyDict).push (PySem.W.instObj C s.heap.objs.size)).get? (s.heap.objs.size+1)=some (PySem.W.instObj C s.heap.objs.size):=by
  have:=cA (s.heap.push PySem.W.emptyDict) (o:=PySem.W.instObj C s.heap.objs.size) rfl;rwa [j6] at this
 have e3:(s.heap.push PySem.W.emptyDict).Ns s.heap.objs.size (λ_=>none):=⟨PySem.W.emptyDict,#[],_,e1,rfl,(λe he=>absurd he (by simp)),λ_=>rfl⟩;have I1:=I.laid (a:=s.heap.objs.size) (o:=.own (s.heap.objs.size+1)) (h':=s.heap.push PySem.W.emptyDict) (t':=s.toks) (λb u q=>bH _ q) (aD _) ⟨_,e1⟩;refine I1.laid (a:=s.heap.objs.size+1) (o:=.ins C s.heap.objs.size []) (t':=s.toks) (λb u q=>bH _ q) (Nat.le_of_eq (j6 _ _)) ?_;have ne:s.heap.objs.size≠s.heap.objs.size+1:=bE (j8 _);refine⟨by rw [ai ne,ae],fj _,ne,e2,λ_=>none,(Heap.Ns1.of_empty e3).at λo q=>bH _ q,λ_=>True.intro,λy hy=>absurd rfl hy⟩
def KD {prog:Program}{w:World}{env:Env}{e:Expr}{f:Str}{pos:Pos}{s:Shared}{Q:Value->Shared->Prop}(hb:attributeBase e f env (eval e env)=eval e env)
  (h:wpAny (model prog w) A (eval e env) (λo s₁=>wpAny (model prog w) A (getAttr o f true) Q E s₁) E s):wpAny (model prog w) A (eval (.Attribute e f pos) env) Q E s :=
 Attribute_any_ h (by rw [arm_eval_Attribute,hb])
end
def U8 (K:a8)(ta:TE)(f:Str):TE:=λσ H Q=>ta σ H λx H1=>∃a C dx fs v,x=.ref a/\H1 a=some (.ins C dx fs)/\EK K C/\d5 K C f/\fs.lookup f=some v/\Q v H1
def Vh (K:a8)(ta tv:TE)(f:Str):TS:=λD σ H=>tv σ H λy H1=>ta σ H1 λx H2=>∃a C dx fs,x=.ref a/\H2 a=some (.ins C dx fs)/\EK K C/\d5 K C f/\fs.length < 1000 /\
 D.nx σ (upd H2 a (.ins C dx (dU f y fs)))
section
variable {X:Cx}{o e value:Expr}{f:Str}{pos pos' vT:Pos}{ta tv:TE}
def e_ (he:PE X e ta)(hb:attributeBase e f X.env (eval e X.env)=eval e X.env):PE X (.Attribute e f pos) (U8 X.K ta f):=by
 intro ag s σ H Q I h;refine KD hb (cX (he ag s σ H _ I h) λu s1 bx=>?_);obtain⟨x,H1,I1,rx,a,C,dx,fs,v,ex,ea,c,n,l,q⟩:=bx;subst ex;obtain rfl:u=Value.ref a:=rx;exact AX I1 ea c n l λu' s2 I2 ru=>⟨v,H1,I2,ru,q⟩
def gO (ha:PE X o ta)(hv:PE X value tv)(hs:swapsWith value (some (.Attribute o f pos')) pos.line X.env=pure false):PS X (.Assign [.Attribute o f pos'] value pos) (Vh X.K ta tv f):=by
 intro ag s σ H D I h;refine plainObj_wpAny_Assign_Attribute (cX (hv ag s σ H _ I h) λu s1 bx=>?_) hs;obtain⟨y,H1,I1,ry,q⟩:=bx;refine cX (ha ag s1 σ H1 _ I1 q) λov s2 bx=>?_;obtain⟨x,H2,I2,rx,a,C,dx,fs,ex,ea,c,n,l,q2⟩:=bx;subst ex;obtain rfl:ov=Value.ref a:=rx;exact zT I2 ea c n l ry λs3 I3=>⟨σ,_,I3,q2⟩
def Lf {pl:Sem Bool}{m:Str}{apos:Pos}{args:List Expr}{ag:List (Addr×Obj)}{s:Shared}{σ:St}{H:Hp}{Q:Value->Shared->Prop}{te:TE}(he:PE X e te)(I:Inv X ag σ H s)
  (h:te σ H λx H1=>∃a C dx fs g,x=.ref a/\H1 a=some (.ins C dx fs)/\EK X.K C/\Meth X.K C m g/\fs.lookup m=none /\
   ∀s1,Inv X ag σ H1 s1->wpAny (model X.prog X.w) X.A (callWith pos (.ref g) [.ref a] (backTo pos (starEach args X.env)) (backToKw pos (keywordEach [] X.env))) Q X.xe s1)
  (ht:eval (.Call (.Attribute e m apos) args [] pos) X.env=(do
   let ov <-eval e X.env
   standAt apos.atName
   let (f,first) <-holding [ov] (getMethod ov m pl)
   callWith pos f first (backTo pos (starEach args X.env)) (backToKw pos (keywordEach [] X.env)))) :
  wpAny (model X.prog X.w) X.A (eval (.Call (.Attribute e m apos) args [] pos) X.env) Q X.xe s:=by
 refine PySem.W.methodCall_KW (pl:=pl) (cX (he ag s σ H _ I h) λu s1 bx=>?_) ht;obtain⟨x,H1,I1,rx,a,C,dx,fs,g,ex,ea,c,k,l,q⟩:=bx;subst ex;obtain rfl:u=Value.ref a:=rx;exact sV I1 ea c k l (q s1 I1)
end
section
variable {X:Cx}{ag:List (Addr×Obj)}{σ:St}{H:Hp}{s:Shared}{A:Around}{E:Value->Shared->Prop}{Q:Value->Shared->Prop}{c:Value}{b:Bool}
inductive tV (K:a8)(H:Hp):V->Value->Prop where
 | eV:tV K H .eV (.type "NoneType")
 | bl (x:Bool):tV K H (.bl x) (.type "bool")
 | int (i:Int):tV K H (.int i) (.type "int")
 | str (x:Str):tV K H (.str x) (.type "str")
 | N6 (x:UInt64):tV K H (.N6 x) (.type "float")
 | lst {a:Addr}{xs:List V}(e:H a=some (.lst xs)):tV K H (.ref a) (.type "list")
 | kx {a:Addr}{o:Obj}{xs:List V}(e:H a=some (.kx o (.lst xs))):tV K H (.ref a) (.type "list")
 | tup {a:Addr}{xs:List V}(e:H a=some (.tup xs)):tV K H (.ref a) (.type "tuple")
 | dK {a:Addr}{kvs:List (aL×V)}(e:H a=some (.dK kvs)):tV K H (.ref a) (.type "dict")
 | dT {a:Addr}{kvs:List (List aL×V)}(e:H a=some (.dT kvs)):tV K H (.ref a) (.type "dict")
 | ins {a C dx:Addr}{fs:List (Str×V)}(e:H a=some (.ins C dx fs))(cl:EK K C)(ha:PySem.W.findIn K (.ref C) "__class__"=some (some (.builtin "object.__class__")))
   (hn:PySem.W.specialIn K (.builtin "object.__class__") "__get__"=some (some (.builtin "getset_descriptor.__get__")))(htk:PySem.W.takesIn K (.builtin "object.__class__")=some true)
   (hm:PySem.W.mroIn K C (.type "object")=some true):tV K H (.ref a) (.ref C)
end
structure fh (k:Nat)(A:Around):Prop where
 hd:A.handled=none
 dp:A.depth+3 * k+5 < recursionLimit
 un:A.units+16 * k+200 < cLine
def fh.mono {j k:Nat}{A:Around}(r:fh k A)(h:j<=k):fh j A:=⟨r.hd,by have:=r.dp;omega,by have:=r.un;omega⟩
theorem fh.deeper {k:Nat}{A:Around}(r:fh (k+1) A)(env:Env):fh k (A.deeper env) :=
 ⟨r.hd,by have:=r.dp;show A.depth+1+3 * k+5 < _;omega,by have:=r.un;show A.units+3+16 * k+200 < _;omega⟩
theorem fh.in1 {k:Nat}{A:Around}(r:fh (k+1) A):fh k A.in1 :=
 ⟨r.hd,by have:=r.dp;show A.depth+3 * k+5 < _;omega,by have:=r.un;show A.units+1+16 * k+200 < _;omega⟩
def AD {A:Around}{C:Addr}{us:List Value}{kw:List (Str×Value)}:(A.under (.builtin "type.__call__" ⟨.ref C::us,kw⟩)).depth=A.depth+1:=by
 first | rfl | simp [Around.under,Code.weight,Code.isCreation,Code.isGuard,Code.isCaller,Code.frames,Code.isFrame,guardIds]
def AB {A:Around}{C:Addr}{us:List Value}{kw:List (Str×Value)}:(A.under (.builtin "type.__call__" ⟨.ref C::us,kw⟩)).units=A.units+1:=by
 first | rfl | simp [Around.under,Code.cUnits,Code.frames,Code.isFrame]
def fh.make {k:Nat}{A:Around}(r:fh (k+1) A)(C:Addr)(us:List Value)(kw:List (Str×Value)):fh k (A.under (.builtin "type.__call__" ⟨.ref C::us,kw⟩)) :=
 ⟨r.hd,by have:=r.dp;rw [AD];omega,by have:=r.un;rw [AB];omega⟩
theorem fh.depth {k:Nat}{A:Around}(r:fh k A):A.depth < recursionLimit:=by have:=r.dp;omega
theorem fh.units {k:Nat}{A:Around}(r:fh k A):A.units+64 < cLine:=by have:=r.un;omega
def rP:TA:=λ_ H Q=>Q [] H
def gM (ta:TE)(tr:TA):TA:=λσ H Q=>ta σ H λx H1=>tr σ H1 λxs H2=>Q (x::xs) H2
section
variable {X:Cx}{e:Expr}{es:List Expr}{te:TE}{t:TA}{pos:Pos}
def ah:PA X [] rP:=λ_ _ _ _ H Q I h=>oX ⟨[],H,I,.nil,h⟩
def ab (ha:PE X e te)(hr:PA X es t)(hs:starEach (e::es) X.env=(false,eval e X.env)::starEach es X.env:=by rfl):PA X (e::es) (gM te t):=by
 intro pos ag s σ H Q I h;rw [hs];show wpAny _ _ (spliced ((false,eval e X.env)::backTo pos (starEach es X.env))) _ _ s;refine p_ (cX (ha ag s σ H _ I h) λu s1 bx=>?_);obtain⟨x,H1,I1,r1,q1⟩:=bx;refine cX (hr pos ag s1 σ H1 _ I1 q1) λus s2 bx=>?_;obtain⟨xs,H2,I2,r2,q2⟩:=bx;exact⟨x::xs,H2,I2,.cons r1 r2,q2⟩
def ue (t:TA):TE:=λσ H Q=>t σ H λxs H1=>xs.length<=sizeLine/\∀p,H1 p=none->Q (.ref p) (upd H1 p (.tup xs))
def PV (t:TA):TE:=λσ H Q=>t σ H λxs H1=>xs.length<=sizeLine/\∀p,H1 p=none->Q (.ref p) (upd H1 p (.lst xs))
def bS {x1}(h:PA X es t):PE X (.Tuple es x1 pos) (ue t):=by
 intro ag s σ H Q I hq;refine wpAny_Tuple_spliced (cX (h pos ag s σ H _ I hq) λus s1 bx=>?_);obtain⟨xs,H1,I1,r,z,q⟩:=bx;refine⟨by rw [<-r.length];exact z,?_⟩;have hf:H1 s1.heap.objs.size=none:=I1.bZ.fresh (aD _);refine⟨.ref s1.heap.objs.size,upd H1 s1.heap.objs.size (.tup xs),I1.laid (t':=s1.toks) (λb u e=>bH _ e) (aD _) ?_,rfl,q _ hf⟩;exact⟨z,us,r,⟨_,cA _ rfl,rfl,_,rfl⟩⟩
def bA (h:PA X es t):PE X (.List es pos) (PV t):=by
 intro ag s σ H Q I hq;refine wpAny_List_spliced (cX (h pos ag s σ H _ I hq) λus s1 bx=>?_);obtain⟨xs,H1,I1,r,z,q⟩:=bx;refine⟨by rw [<-r.length];exact z,?_⟩;have hf:H1 s1.heap.objs.size=none:=I1.bZ.fresh (aD _);refine⟨.ref s1.heap.objs.size,upd H1 s1.heap.objs.size (.lst xs),I1.laid (t':=s1.toks) (λb u e=>bH _ e) (aD _) ?_,rfl,q _ hf⟩;exact⟨z,us,0,r,cA _ rfl⟩
end
abbrev Sp:=List V->Hp->VK->XK->Prop
abbrev zE:=List Env->Hp->Shared->XK->Value->Shared->Prop
structure qG (P:Program)(w:World)(K:a8)(mg:Str->Option Value)(base:Heap)(A:Around)(outer:List Env)(s:Shared)(H:Hp):Prop where
 frames:A.frames=some outer
 mod:Mod K mg base
 bs:∀b o,base.get? b=some o->s.heap.get? b=some o/\H b=none
 Jf:base.objs.size<=s.heap.objs.size
 pM:s.heap.FunFrames base outer
 LD:∀b∈DY outer,H b=none
 bZ:mj P w H s.heap
 bare:AllBare s.gens
def CE (outer:List Env)(P:Program)(w:World)(H:Hp)(s:Shared)(Q:VK)(u:Value)(s':Shared):Prop :=
 ∃v H',s'.os=s.os/\AllBare s'.gens/\Un (DY outer) [] H H' s.heap s'.heap/\mj P w H' s'.heap/\RelV v u/\Q v H'
def CR (CX:zE)(outer:List Env)(P:Program)(w:World)(H:Hp)(s:Shared)(Q:VK)(E:XK)(r:Result)(s':Shared):Prop :=
 match r with
 | .ok (.ret u)=>CE outer P w H s Q u s'
 | .ok _=>False
 | .error e=>CX outer H s E e s'
structure bR (P:Program)(w:World)(K:a8)(mg:Str->Option Value)(base:Heap)(CX:zE) (k:Nat)(f:Addr)(fd:FuncData) (ps:List Str)(sp:Sp):Prop where
 len:∀vs H Q E,sp vs H Q E->vs.length=ps.length
 run:∀(A:Around)(outer:List Env)(s:Shared)(H:Hp)(args:Args)(us:List Value)(vs:List V)(Q:VK)(E:XK),fh k A->qG P w K mg base A outer s H->BindsTo s fd args (ps.zip us)->aY vs us->sp vs H Q E ->
  codeAny (model P w) A (.call (.ref f) args) (CR CX outer P w H s Q E) s
theorem bR.mono {P:Program}{w:World}{K:a8}{mg:Str->Option Value}{base:Heap}{CX:zE}{j k:Nat}{f:Addr}{fd:FuncData}{ps:List Str}{sp:Sp}(F:bR P w K mg base CX j f fd ps sp)(h:j<=k) :
  bR P w K mg base CX k f fd ps sp:=⟨F.len,λA outer s H args us vs Q E hr=>F.run A outer s H args us vs Q E (hr.mono h)⟩
def bR.imp {P:Program}{w:World}{K:a8}{mg:Str->Option Value}{base:Heap}{CX:zE}{k:Nat}{f:Addr}{fd:FuncData}{ps:List Str}{sp Y2:Sp}(F:bR P w K mg base CX k f fd ps sp)
  (h:∀vs H Q E,Y2 vs H Q E->sp vs H Q E):bR P w K mg base CX k f fd ps Y2 :=
 ⟨λvs H Q E q=>F.len vs H Q E (h _ _ _ _ q),λA outer s H args us vs Q E hr he hb hv hs=>F.run A outer s H args us vs Q E hr he hb hv (h _ _ _ _ hs)⟩
def qG.make {P:Program}{w:World}{K:a8}{mg:Str->Option Value}{base:Heap}{A:Around}{outer:List Env}{s:Shared}{H:Hp}(e:qG P w K mg base A outer s H)(C:Addr)(us:List Value)(kw:List (Str×Value)) :
  qG P w K mg base (A.under (.builtin "type.__call__" ⟨.ref C::us,kw⟩)) outer s H:=⟨by first | exact e.frames | (simpa [Around.under,Code.envs,Code.isFrame,pushEnvs] using e.frames),e.mod,e.bs,e.Jf,e.pM,e.LD,e.bZ,e.bare⟩
theorem qG.in1 {P:Program}{w:World}{K:a8}{mg:Str->Option Value}{base:Heap}{A:Around}{outer:List Env}{s:Shared}{H:Hp}(e:qG P w K mg base A outer s H) :
  qG P w K mg base A.in1 outer s H:=⟨e.frames,e.mod,e.bs,e.Jf,e.pM,e.LD,e.bZ,e.bare⟩
section
variable {X:Cx}{ag:List (Addr×Obj)}{σ:St}{H:Hp}{s s':Shared}
def Inv.Oc (I:Inv X ag σ H s):qG X.prog X.w X.K X.mg X.base X.A X.stack s H :=
 ⟨I.ok.frames,I.ok.mod,I.bs,dI I.ok.Jf I.sz,I.stack,I.BJ,I.bZ,I.bare⟩
def Inv.after {Q:VK}{u:Value}(I:Inv X ag σ H s)(h:CE X.stack X.prog X.w H s Q u s'):EP X ag σ Q u s':=by
 obtain⟨v,H',os,bare,un,bZ,r,q⟩:=h;obtain⟨hh,g,d,t,Qn⟩:=s';obtain rfl:Qn=s.os:=os;exact⟨v,H',I.call (h':=hh) (g':=g) (d':=d) (t':=t) (ch:=[]) un bZ bare (λb z=>absurd z (by simp)),r,q⟩
end
def KZ (sp:Sp)(dvs:List V)(E:XK)(t:TA):TE:=λσ H Q=>t σ H λvs H1=>sp (vs++dvs) H1 Q E
def PR (C:Addr)(m:Str)(sp:Sp)(dvs:List V)(E:XK)(ta:TE)(t:TA):TE:=λσ H Q=>ta σ H λx H1=>∃a dx fs,x=.ref a/\H1 a=some (.ins C dx fs)/\fs.lookup m=none /\
 t σ H1 λvs H2=>sp (x::(vs++dvs)) H2 Q E
def PU (C:Addr)(sp:Sp)(dvs:List V)(E:XK)(t:TA):TE:=λσ H Q=>t σ H λvs H1=>∀x dx,H1 x=none->H1 dx=none->dx≠x ->
 sp (.ref x::(vs++dvs)) (upd (upd H1 dx (.own x)) x (.ins C dx [])) (λv H2=>v=.eV/\Q (.ref x) H2) E
def Binds (K:a8)(fd:FuncData) (ps:List Str)(ds:List Value):Prop :=
 ∀(s:Shared)(us:List Value),K.In s.heap->(us++ds).length=ps.length->BindsTo s fd ⟨us,[]⟩ (ps.zip (us++ds))
def Binds.all {K:a8}{fd:FuncData}{ps:List Str}(h:∀us:List Value,us.length=ps.length->bindArgs fd ⟨us,[]⟩=pure (ps.zip us)):Binds K fd ps []:=λs us _ hl=>by
 rw [iu] at hl ⊢;exact .of_eq (h us hl)
def Passes (CX:zE)(X:Cx)(E:XK):Prop:=∀(ag:List (Addr×Obj))(σ:St)(H:Hp)(s:Shared)(e:Value)(s':Shared),Inv X ag σ H s->CX X.stack H s E e s'->X.xe e s'
section
variable {X:Cx}{CX:zE}{k:Nat}{f C:Addr}{fd:FuncData}{ps:List Str}{sp:Sp}{dvs:List V}{ds:List Value}{E:XK}{x m:Str}{p pos apos:Pos}{e o:Expr}{es:List Expr}{ta:TE}{t:TA}
def FU {ag:List (Addr×Obj)}{σ:St}{H:Hp}{s:Shared}{Q:VK}{us:List Value}{vs:List V}(F:bR X.prog X.w X.K X.mg X.base CX k f fd ps sp)(hr:fh k X.A)(hb:Binds X.K fd ps ds)(hd:aY dvs ds)(hx:Passes CX X E)
  (I:Inv X ag σ H s)(r:aY vs us)(h:sp (vs++dvs) H Q E):wpAny (model X.prog X.w) X.A (call (.ref f) us) (EP X ag σ Q) X.xe s:=by
 have r2:aY (vs++dvs) (us++ds):=r.append hd;have hl:(us++ds).length=ps.length:=by rw [<-r2.length];exact F.len _ _ _ _ h
 refine kO (jA (F.run X.A X.stack s H ⟨us,[]⟩ (us++ds) (vs++dvs) Q E hr I.Oc (hb s us I.wX hl) r2 h) λr s' hq=>?_);cases r with
 | error e=>exact hx ag σ H s e s' I hq
 | ok fl =>
  cases fl with
  | ret u=>exact I.after hq
  | next=>exact False.elim hq
  | brk=>exact False.elim hq
  | cont=>exact False.elim hq
def JK (F:bR X.prog X.w X.K X.mg X.base CX k f fd ps sp)(hr:fh k X.A)(hg:Gl X x)(hm:X.mg x=some (.ref f))(hk:PySem.W.keepIn X.K (.ref f)=true)(hb:Binds X.K fd ps ds)(hd:aY dvs ds)(hx:Passes CX X E)
  (ha:PA X (e::es) t)(DQ:(x == ("__debug__":Str))=false:=by decide)(he:starEach (e::es) X.env=(false,eval e X.env)::starEach es X.env:=by rfl)(uU:(backTo pos (starEach es X.env)).any (·.1)=false:=by rfl) :
  PE X (.Call (.Name x p) (e::es) [] pos) (KZ sp dvs E t):=by
 intro ag s σ H Q I h;refine nq (wV I hg hm ?_ DQ);refine PySem.W.callWith_K (h₀:=X.base) I.ok.mod.QV hk (cX (ha pos ag s σ H _ I h) λus s1 bx=>?_) he uU;obtain⟨vs,H1,I1,r,q⟩:=bx;refine⟨I1.wX,?_⟩;exact FU F hr hb hd hx I1 r q
def Cc {pl:Sem Bool}(he:PE X o ta)(c:EK X.K C)(hm:Meth X.K C m f)(F:bR X.prog X.w X.K X.mg X.base CX k f fd ps sp)(hr:fh k X.A)(hb:Binds X.K fd ps ds)(hd:aY dvs ds)(hx:Passes CX X E)(ha:PA X (e::es) t)
  (mZ:starEach (e::es) X.env=(false,eval e X.env)::starEach es X.env:=by rfl)(uU:(backTo pos (starEach es X.env)).any (·.1)=false:=by rfl)
  (ht:eval (.Call (.Attribute o m apos) (e::es) [] pos) X.env=(do
   let ov <-eval o X.env
   standAt apos.atName
   let (f,first) <-holding [ov] (getMethod ov m pl)
   callWith pos f first (backTo pos (starEach (e::es) X.env)) (backToKw pos (keywordEach [] X.env))):=by rfl) :
  PE X (.Call (.Attribute o m apos) (e::es) [] pos) (PR C m sp dvs E ta t):=by
 intro ag s σ H Q I h;refine PySem.W.methodCall_KW (pl:=pl) (cX (he ag s σ H _ I h) λu s1 bx=>?_) ht;obtain⟨x,H1,I1,rx,a,dx,fs,ex,ea,l,q⟩:=bx;subst ex;obtain rfl:u=Value.ref a:=rx;refine sV I1 ea c hm l ?_;refine PySem.W.callWith_K (first:=[.ref a]) (h₀:=X.base) I.ok.mod.QV hm.kp (cX (ha pos ag s1 σ H1 _ I1 q) λus s2 bx=>?_) mZ uU;obtain⟨vs,H2,I2,r,q2⟩:=bx;refine⟨I2.wX,?_⟩;exact FU (us:=.ref a::us) (vs:=.ref a::vs) F hr hb hd hx I2 (.cons rfl r) q2
structure Mk (K:a8)(C f:Addr):Prop where
 makes:PySem.W.makesIn K C=true
 init:PySem.W.findIn K (.ref C) "__init__"=some (some (.ref f))
 fn:PySem.W.isFn K (.ref f)=true
 kp:PySem.W.keepIn K (.ref C)=true
def FT {ag:List (Addr×Obj)}{σ:St}{H:Hp}{s:Shared}{Q:VK}{us:List Value}{vs:List V}(M:Mk X.K C f)(F:bR X.prog X.w X.K X.mg X.base CX k f fd ps sp)(hr:fh (k+1) X.A)(hb:Binds X.K fd ps ds)(hd:aY dvs ds)
  (hx:Passes CX X E)(I:Inv X ag σ H s)(r:aY vs us)
  (h:∀x dx,H x=none->H dx=none->dx≠x->sp (.ref x::(vs++dvs)) (upd (upd H dx (.own x)) x (.ins C dx [])) (λv H2=>v=.eV/\Q (.ref x) H2) E) :
  wpAny (model X.prog X.w) X.A (call (.ref C) us) (EP X ag σ Q) X.xe s:=by
 have hq:=h (s.heap.objs.size+1) s.heap.objs.size (I.bZ.fresh (i7 _)) (I.bZ.fresh (aD _)) (bE (j8 _));have I2:=Inv.made (C:=C) I;have r2:aY (V.ref (s.heap.objs.size+1)::(vs++dvs)) (Value.ref (s.heap.objs.size+1)::(us++ds)):=.cons rfl (r.append hd);have hl:(Value.ref (s.heap.objs.size+1)::us++ds).length=ps.length:=by
  have e:=r2.length;rw [F.len _ _ _ _ hq] at e;exact e.symm
 refine kO (G5 (f:=f) I.wX M.makes M.init (beq_iff_eq.mp M.fn) (jA (F.run _ X.stack _ _ ⟨Value.ref (s.heap.objs.size+1)::us,[]⟩ (Value.ref (s.heap.objs.size+1)::(us++ds)) _ _ E (hr.make C us [])
  (I2.Oc.make C us []) (hb _ (Value.ref (s.heap.objs.size+1)::us) I2.wX hl) r2 hq) λr s' Rg=>?_))
 cases r with
 | error e=>exact hx ag σ _ _ e s' I2 Rg
 | ok fl =>
  cases fl with
  | ret u =>
   obtain⟨v,H',I3,rv,ev,q3⟩:=I2.after Rg;subst ev;exact⟨rv,⟨V.ref (s.heap.objs.size+1),H',I3,rfl,q3⟩⟩
  | next=>exact False.elim Rg
  | brk=>exact False.elim Rg
  | cont=>exact False.elim Rg
def wH (M:Mk X.K C f)(F:bR X.prog X.w X.K X.mg X.base CX k f fd ps sp)(hr:fh (k+1) X.A)(hg:Gl X x)(hm:X.mg x=some (.ref C))(hb:Binds X.K fd ps ds)(hd:aY dvs ds)(hx:Passes CX X E)
  (ha:PA X (e::es) t)(DQ:(x == ("__debug__":Str))=false:=by decide)(he:starEach (e::es) X.env=(false,eval e X.env)::starEach es X.env:=by rfl)(uU:(backTo pos (starEach es X.env)).any (·.1)=false:=by rfl) :
  PE X (.Call (.Name x p) (e::es) [] pos) (PU C sp dvs E t):=by
 intro ag s σ H Q I h;refine nq (wV I hg hm ?_ DQ);refine PySem.W.callWith_K (h₀:=X.base) I.ok.mod.QV M.kp (cX (ha pos ag s σ H _ I h) λus s1 bx=>?_) he uU;obtain⟨vs,H1,I1,r,q⟩:=bx;refine⟨I1.wX,?_⟩;exact FT M F hr hb hd hx I1 r q
end
section
variable {X:Cx}{CX:zE}{k:Nat}{f C:Addr}{fd:FuncData}{ps ks:List Str}{sp:Sp}{E:XK}{x m:Str}{p pos apos aai:Pos}{e o:Expr}{es:List Expr}{kws:List Keyword}{te ta:TE}{t tk:TA}{nm:Option Str}
structure YG (K:a8)(fd:FuncData) (ps ks:List Str)(g:List Value->List Value->List Value)(gV:List V->List V->List V):Prop where
 to:∀(s:Shared)(us ws:List Value),K.In s.heap->(g us ws).length=ps.length->BindsTo s fd ⟨us,ks.zip ws⟩ (ps.zip (g us ws))
 rel:∀{vs:List V}{us:List Value}{zs:List V}{ws:List Value},aY vs us->aY zs ws->aY (gV vs zs) (g us ws)
variable {g:List Value->List Value->List Value}{gV:List V->List V->List V}
end
structure aI (N P:List Str)(sc:Scope):Prop where
 kind:sc.kind=.function
 co:sc.isCoroutine=false
 gen:sc.isGenerator=false
 nd:N.Nodup
 pre:N.take P.length=P
 par:∀x∈P,sc.names.lookup x=some .local\/sc.names.lookup x=some .cell
 Na:∀y∈sc.names,y.2≠.free
def iT {N P:List Str}{sc:Scope}(a:sc.kind=.function)(b:sc.isCoroutine=false)(c:sc.isGenerator=false)(d:N.take P.length=P)(e:N.Nodup/\(∀x∈P,sc.names.lookup x=some .local\/sc.names.lookup x=some .cell)/\∀y∈sc.names,y.2≠.free):aI N P sc:=⟨a,b,c,e.1,d,e.2.1,e.2.2⟩
theorem ve {kindOf:Str->Option NameKind}{x:Str}:∀{binds:List (Str×Value)}{m:Str->Option Value},(∀v,(x,v)∉binds)->bindL kindOf binds m x=m x
 | [],_,_=>rfl
 | (n,v)::r,m,h=>by
  unfold bindL;rw [ve λw hw=>h w (cW _ hw)]
  split
  .have:x≠n:=by rintro rfl;exact h v cJ
   simp [this]
  rfl
theorem vh {kindOf:Str->Option NameKind}{x:Str}:∀{binds:List (Str×Value)}{m:Str->Option Value},(∀v,(x,v)∉binds)->bindC kindOf binds m x=m x
 | [],_,_=>rfl
 | (n,v)::r,m,h=>by
  unfold bindC;rw [vh λw hw=>h w (cW _ hw)]
  split
  .rfl
  have:x≠n:=by rintro rfl;exact h v cJ
  simp [this]
theorem vf {kindOf:Str->Option NameKind}{x:Str}{v:Value}:∀{P:List Str}{vs:List Value}{i:Nat}{m:Str->Option Value},P.Nodup->P[i]?=some x->vs[i]?=some v->kindOf x=some .local ->
  bindL kindOf (P.zip vs) m x=some v
 | [],_,_,_,_,h,_,_=>by simp at h
 | _::_,[],_,_,_,_,h,_=>by simp at h
 | p::P,w::vs,0,m,nd,h1,h2,hk=>by
  simp at h1 h2;subst h1;subst h2;show bindL kindOf ((p,w)::P.zip vs) m p=_;unfold bindL;rw [ve λv hv=>(ni.mp nd).1 (List.of_mem_zip hv).1,ax hk];simp
 | p::P,w::vs,i+1,m,nd,h1,h2,hk=>by
  show bindL kindOf ((p,w)::P.zip vs) m x=_;unfold bindL;exact vf (i:=i) (ni.mp nd).2 (by simpa using h1) (by simpa using h2) hk
theorem vi {kindOf:Str->Option NameKind}{x:Str}{v:Value}:∀{P:List Str}{vs:List Value}{i:Nat}{m:Str->Option Value},P.Nodup->P[i]?=some x->vs[i]?=some v->kindOf x≠some .local ->
  bindC kindOf (P.zip vs) m x=some v
 | [],_,_,_,_,h,_,_=>by simp at h
 | _::_,[],_,_,_,_,h,_=>by simp at h
 | p::P,w::vs,0,m,nd,h1,h2,hk=>by
  simp at h1 h2;subst h1;subst h2;show bindC kindOf ((p,w)::P.zip vs) m p=_;unfold bindC;rw [vh λv hv=>(ni.mp nd).1 (List.of_mem_zip hv).1,aw hk];simp
 | p::P,w::vs,i+1,m,nd,h1,h2,hk=>by
  show bindC kindOf ((p,w)::P.zip vs) m x=_;unfold bindC;exact vi (i:=i) (ni.mp nd).2 (by simpa using h1) (by simpa using h2) hk
def start (N:List Str)(vs:List V):St:=vs.map some++List.replicate (N.length - vs.length) none
def pS (CX:zE)(P:Program)(w:World)(K:a8)(mg:Str->Option Value)(base:Heap) (N:List Str)(qual:Str)(scope:Scope)(f:Addr)(cd:Value)(A:Around)(outer:List Env)(s:Shared)(H:Hp)(E:XK):Cx where
 prog:=P
 w:=w
 K:=K
 mg:=mg
 base:=base
 A:=A.deeper (envOfC qual scope s.heap.objs.size f cd)
 N:=N
 s₀:=s
 H₀:=H
 env:=envOfC qual scope s.heap.objs.size f cd
 outer:=outer
 stack:=envOfC qual scope s.heap.objs.size f cd::outer
 ex:=[]
 calm:=true
 fn:=λ_=>true
 pn:=[]
 xe:=λe s'=>wpAny (model P w) (A.deeper (envOfC qual scope s.heap.objs.size f cd)) (leaving (envOfC qual scope s.heap.objs.size f cd) e) (λ_ MO=>CX outer H s E e MO) (λe' MO=>CX outer H s E e' MO) s'
def yZ {sc:Scope}{n:Nat}{x:Str}(h:sc.names.lookup x=some .cell):∃c,(cellsFrom n sc.names []).lookup x=some c:=by
 have q:=PySem.W.cellsFrom_some sc.names n [] (.inl h);exact lX.mp q
def uS {CX:zE}{P:Program}{w:World}{K:a8}{mg:Str->Option Value}{base:Heap}{N ps:List Str}{qual:Str}{scope:Scope}{f:Addr}{cd:Value}{A:Around}{outer:List Env}{s s1:Shared}{H:Hp}{E:XK}{us:List Value}{vs:List V}
  (S:aI N ps scope)(hd:A.handled=none)(e0:qG P w K mg base A outer s H)(hl:vs.length=ps.length)(r:aY vs us)
  (x:InCallC s s.heap.objs.size (bindL (envOfC qual scope s.heap.objs.size f cd).kindOf (ps.zip us) λ_=>none) (cellsFrom (s.heap.objs.size+1) scope.names []) (bindC (envOfC qual scope s.heap.objs.size f cd).kindOf (ps.zip us) λ_=>none) s1) :
  Inv (pS CX P w K mg base N qual scope f cd A outer s H E) [] (start N vs) H s1:=by
 have uU:ps.length<=N.length:=by have:=congrArg List.length S.pre;rw [dD] at this;omega
 obtain⟨h1,tk,rfl,hk⟩:=x.done;have Qw:∀b:Addr,b∉(pS CX P w K mg base N qual scope f cd A outer s H E).ex:=λb z=>absurd (show b∈([]:List Addr) from z) (by simp);refine⟨⟨e0.mod,S.kind,rfl,rfl,aD _,λy z c h1 h2=>?_,λy hy=>?_,λy c _ h=>?_,λ_=>hd,Around.frames_deeper e0.frames,.inr ⟨rfl,rfl⟩,λb z=>absurd z (Qw b),e0.bs,e0.Jf,λb _ _=>Qw b,λb z=>absurd z (Qw b),e0.pM,e0.LD⟩,
  rfl,e0.bare,Un.kept hk,⟨_,x.toInCall.ns,λi y v h1 h2 h3=>?_⟩,λy c h=>⟨_,x.cell y c h⟩,e0.bZ.fresh (aD _),λy c h=>?_,λp hp=>absurd (show p∈([]:List (Addr×Obj)) from hp) (by simp),e0.bZ.kept hk,?_⟩
 .exact name_of_addr x.apart (rE h1) (rE h2)
 .have hy:scope.names.lookup y=some .cell\/scope.names.lookup y=some .free:=hy;rcases hy with hy | hy
  .exact yZ hy
  exact absurd rfl (S.Na _ (rE hy))
 .exact i8 (x.above y c (rE h))
 .have hi:i < vs.length:=by
   unfold start at h2;by_cases hi:i < vs.length
   .exact hi
   rw [nv (by simpa using hi)] at h2;rw [List.getElem?_replicate] at h2
   split at h2 <;> cases h2
  have ha:vs[i]?=some v:=by
   unfold start at h2;rw [qd (by simpa using hi),bo] at h2;cases e:vs[i]? with
   | none=>rw [e] at h2;cases h2
   | some a=>rw [e] at h2;cases h2;rfl
  obtain⟨u,hu,rv⟩:=r.get ha;have hp:ps[i]?=some y:=by
   rw [<-S.pre,rL ∅];exact h1
  have Tn:ps.Nodup:=by rw [<-S.pre];exact S.nd.sublist (List.take_sublist _ _)
  refine⟨u,rv,?_⟩;rcases S.par y (b8 hp) with k | k
  .exact .inl ⟨k,vf Tn hp hu k⟩
  obtain⟨c,e⟩:=yZ (n:=s.heap.objs.size+1) k;refine .inr ⟨.inl k,c,e,?_⟩;have q:=x.cell y c e;rw [vi Tn hp hu (by show scope.names.lookup y≠_;rw [k];decide)] at q;exact q
 .exact e0.bZ.fresh (i8 (x.above y c (rE h)))
 unfold start;show _=N.length;rw [bp,av,List.length_replicate];omega
def HP {CX:zE}{P:Program}{w:World}{K:a8}{mg:Str->Option Value}{base:Heap}{k:Nat}{f:Addr}{name qual:Str}{params:Arguments}{body:List Stmt}{scope:Scope}{dV kV doc pm eK ct oc:Value}{an od:Option Addr}
  {wJ:Array (Option Value)}{N ps:List Str}{sp:Sp}(lk:K.lookup f=some ⟨oc,od,.func (PySem.W.fnOf name qual params body scope dV kV doc pm an eK ct),wJ⟩)(w6:PySem.W.codeIn K eK qual=true)(S:aI N ps scope)
  (len:∀vs H Q E,sp vs H Q E->vs.length=ps.length)
  (jt:∀(A:Around)(outer:List Env)(s:Shared)(H:Hp)(vs:List V)(Q:VK)(E:XK),fh k (A.deeper (envOfC qual scope s.heap.objs.size f eK))->sp vs H Q E ->
   ∃t,Bm (pS CX P w K mg base N qual scope f eK A outer s H E) body t/\t { nx:=λ_ H'=>Q .eV H',rt:=Q } (start N vs) H) :
  bR P w K mg base CX (k+1) f (PySem.W.fnOf name qual params body scope dV kV doc pm an eK ct) ps sp:=by
 refine⟨len,λA outer s H args us vs Q E hr e0 hb r zw=>?_⟩;have hl:=len _ _ _ _ zw;have KX:K.In s.heap:=e0.mod.QV.keeps λb o e=>(e0.bs b o e).1;have lim:s.heap.NoLimit:=e0.mod.nolimit.keeps λb o e=>(e0.bs b o e).1;have jq:∀y∈ps.zip us,scope.names.lookup y.1=some .local\/(scope.names.lookup y.1=some .cell/\((cellsFrom (s.heap.objs.size+1) scope.names []).lookup y.1).isSome=true):=λ⟨n,v⟩ hy=>by
  rcases S.par n (List.of_mem_zip hy).1 with q | q
  .exact .inl q
  exact .inr ⟨q,PySem.W.cellsFrom_some _ _ _ (.inl q)⟩
 refine codeAny_call_function hr.depth (KX _ _ lk) rfl S.co S.gen rfl (PySem.W.codeRec_of KX w6) (hb _ _ _ _ ?_);refine wpAny_newFunctionEnv_cells S.kind jq λenv he s1 x=>?_;subst he;refine⟨lim.keeps x.toInCall.keep,codeAny_func ?_⟩;obtain⟨t,ht,hq⟩:=jt A outer s H vs Q E (hr.deeper _) zw;have I:Inv (pS CX P w K mg base N qual scope f eK A outer s H E) [] (start N vs) H s1:=uS S hr.hd e0 hl r x;refine dC (ht [] s1 (start N vs) H _ I hq) (λfl s' hs=>?_) λe s' hs=>hs;have fin:∀{σ':St}{H':Hp}{v:V}{u:Value},Inv (pS CX P w K mg base N qual scope f eK A outer s H E) [] σ' H' s'->RelV v u->Q v H'->CE outer P w H s Q u s' :=
  λ{σ' H' v u} J rv q=>⟨v,H',J.os,J.bare,J.base,J.bZ,rv,q⟩
 cases fl with
 | ret u =>
  obtain⟨v,σ',H',J,rv,q⟩:=hs;exact fin J rv q
 | next =>
  obtain⟨σ',H',J,q⟩:=hs;exact fin (v:=V.eV) (u:=Value.none) J rfl q
 | brk =>
  obtain⟨_,_,_,q⟩:=hs;exact False.elim q
 | cont =>
  obtain⟨_,_,_,q⟩:=hs;exact False.elim q
section
variable {X:Cx}{x:Str}{p pos:Pos}{e:Expr}{es:List Expr}{t:TA}{id T:String}{r:List V->Hp->VK->Prop}
def YY (r:List V->Hp->VK->Prop)(t:TA):TE:=λσ H Q=>t σ H λvs H1=>r vs H1 Q
def aF (hc:ij X (.builtin id) r)(hg:Gl X x)(hm:X.mg x=none)(hv:bootBuiltins x=some (.builtin id))(ha:PA X (e::es) t)(hn:x ≠ "__name__" := by decide)(DQ:(x == ("__debug__":Str))=false:=by decide)
  (he:starEach (e::es) X.env=(false,eval e X.env)::starEach es X.env:=by rfl)(uU:(backTo pos (starEach es X.env)).any (·.1)=false:=by rfl):PE X (.Call (.Name x p) (e::es) [] pos) (YY r t):=by
 intro ag s σ H Q I h;refine nq (iQ I hg hm hv ?_ hn DQ);refine PyProof.Rows.callWith_builtin1 (cX (ha pos ag s σ H _ I h) λus s1 bx=>?_) he uU;obtain⟨vs,H1,I1,r1,q1⟩:=bx;exact hc ag s1 σ H1 vs us Q I1 r1 q1
def aV (hc:ij X (.type T) r)(hg:Gl X x)(hm:X.mg x=none)(hv:bootBuiltins x=some (.type T))(ha:PA X (e::es) t)(hn:x ≠ "__name__" := by decide)(DQ:(x == ("__debug__":Str))=false:=by decide)
  (he:starEach (e::es) X.env=(false,eval e X.env)::starEach es X.env:=by rfl)(uU:(backTo pos (starEach es X.env)).any (·.1)=false:=by rfl):PE X (.Call (.Name x p) (e::es) [] pos) (YY r t):=by
 intro ag s σ H Q I h;refine nq (iQ I hg hm hv ?_ hn DQ);refine xD (cX (ha pos ag s σ H _ I h) λus s1 bx=>?_) he uU;obtain⟨vs,H1,I1,r1,q1⟩:=bx;exact hc ag s1 σ H1 vs us Q I1 r1 q1
end
end L2
namespace HT
open PySem PyProof.Rows
section
open PySem.SeqAt
open PySem.AutoSeq1 (wpAny_loadPart')
open PySem.MeetsSeq PySem.MeetsSeq2 PySem.MeetsSeq3
end
section
variable {prog:Program}{w:World}{A:Around}{E:Value->Shared->Prop}{s:Shared}
def KC {t b:Addr}{vs ws:List Value}{Q:Value->Shared->Prop}(ht:IsTup s.heap t vs.toArray)(hb:IsTup s.heap b ws.toArray)(hv:vs≠[])
  (h1:ws=[]->Q (.ref t) s)(h2:ws≠[]->Q (.ref s.heap.objs.size) { s with heap:=s.heap.push { cls:=.type "tuple",data:=.seq (vs++ws).toArray } })
  (hsz:vs.length+ws.length<=sizeLine):wpAny (model prog w) A (binaryOp .Add (.ref t) (.ref b)) Q E s:=by
 obtain⟨⟨cls,dd,data,sl⟩,ho,hc,n,hd⟩:=id ht;obtain⟨⟨Yb,Pe,data2,Tc⟩,AO,NP,n2,hd2⟩:=id hb;simp only at hc hd NP hd2;subst hc hd NP hd2;have e:vs.toArray++ws.toArray=(vs++ws).toArray:=by simp
 by_cases hw:ws=[]
 .exact concat_meets ⟨_,ho,rfl⟩ ⟨_,AO,rfl⟩ noFill_tuple_add seq_tuple_add zF zG (zI _ _)
   (tuple_addW1 t b vs.toArray ws.toArray n n2 dd Pe sl Tc (by simpa using hv) (by simp [hw])) ⟨ho,AO,h1 hw⟩
 refine concat_meets ⟨_,ho,rfl⟩ ⟨_,AO,rfl⟩ noFill_tuple_add seq_tuple_add zF zG (zI _ _)
  (tuple_addW2 t b vs.toArray ws.toArray n n2 dd Pe sl Tc (by simpa using hv) (by simpa using hw) (by rw [bO,bO];exact hsz)) ⟨ho,AO,?_⟩
 rw [e];exact h2 hw
def fA (n d:Nat):Option Int->Nat
 | none=>d
 | some v=>if v < 0 then (v+(n:Int)).toNat else min v.toNat n
def jl (n d:Nat):fA n d none=d:=rfl
def qK (n d k:Nat):fA n d (some (k:Int))=min k n:=by
 show (if (k:Int) < 0 then ((k:Int)+(n:Int)).toNat else min (k:Int).toNat n)=min k n;rw [aw ∅,gJ]
def MI (n d:Nat)(hd:d<=n)(o:Option Int):fA n d o<=n:=by
 cases o with
 | none=>exact hd
 | some v =>
  show (if v < 0 then (v+(n:Int)).toNat else min v.toNat n)<=n;by_cases hv:v < 0
  .rw [ax hv];omega
  rw [aw hv];exact Nat.min_le_right _ _
def CA (v:Int) (n d:Nat):(if v < 0 then max (v+(n:Int)) 0 else min v (n:Int))=((fA n d (some v):Nat):Int):=by
 show (if v < 0 then max (v+(n:Int)) 0 else min v (n:Int))=(((if v < 0 then (v+(n:Int)).toNat else min v.toNat n):Nat):Int);by_cases hv:v < 0
 .simp only [ax hv];omega
 simp only [aw hv];omega
def Bj (lo hi:Option Int) (n:Nat):Builtin.Slice.sliceAdjust lo hi 1 (n:Int)=(((fA n 0 lo:Nat):Int),((fA n n hi:Nat):Int)):=by
 have h1:¬((1:Int) < 0):=by omega
 unfold Builtin.Slice.sliceAdjust;simp only [h1,if_false];refine Prod.ext ?_ ?_
 .cases lo with
  | none=>rfl
  | some v=>exact CA v n 0
 cases hi with
 | none=>rfl
 | some v=>exact CA v n n
def Aj (i j:Nat):Builtin.Slice.slicePlaces (i:Int) (j:Int) 1=j - i:=by
 unfold Builtin.Slice.slicePlaces;have h1:(1:Int) > 0:=by omega
 simp only [h1,if_true,Int.ediv_one]
 split <;> omega
def rW {v:Value}{o:Option Int}{Q:Option Int->Shared->Prop}(p:IsPart v o)(h:Q o s):wpAny (model prog w) A (Builtin.Slice.slicePartIndex v) Q E s:=by
 cases p with
 | none=>exact slicePart_none h
 | int i t=>exact slicePart_int h
def jj {sl:Addr}{vl vu:Value}{lo hi:Option Int}{n:Nat}{Q:Int×Int×Nat->Shared->Prop}(hs:s.heap.IsSliceOf sl vl vu .none)(pl:IsPart vl lo)(pu:IsPart vu hi)
  (h:Q (((fA n 0 lo:Nat):Int),1,fA n n hi - fA n 0 lo) s):wpAny (model prog w) A (Builtin.Slice.sliceApplied (.ref sl) (pure (n:Int))) Q E s:=by
 obtain⟨os,DM,Hz,IS⟩:=id hs;unfold Builtin.Slice.sliceApplied Builtin.Slice.sliceFields;refine aq (aq (ir DM IS (x:=vl) rfl (aq (ir DM IS (x:=vu) rfl (aq (ir DM IS (x:=.none) rfl (aH ?_)))))));refine aq (slicePart_none ?_);show wpAny _ _ (if ((1:Int) == 0)=true then _ else _) _ _ s;rw [aw nofun];refine aq (rW pl (aq (rW pu (aq (aH ?_)))));show wpAny _ _ (match Builtin.Slice.sliceAdjust lo hi 1 (n:Int) with | (lo,hi)=>pure (lo,(1:Int),Builtin.Slice.slicePlaces lo hi 1)) _ _ s
 rw [Bj lo hi n];show wpAny _ _ (pure (((fA n 0 lo:Nat):Int),(1:Int),Builtin.Slice.slicePlaces ((fA n 0 lo:Nat):Int) ((fA n n hi:Nat):Int) 1)) _ _ s;rw [Aj];exact aH h
def Gb (xs:Array Value) (i k:Nat):((List.range k).filterMap λ(m:Nat)=>xs[((i:Int)+(m:Int) * 1).toNat]?).toArray=((xs.toList.drop i).take k).toArray:=by
 have e:(λ(m:Nat)=>xs[((i:Int)+(m:Int) * 1).toNat]?)=λm=>xs[i+m]?:=by
  funext m
  have:((i:Int)+(m:Int) * 1).toNat=i+m:=by omega
  rw [this]
 rw [e];have:=pick_run xs i k;rw [List.filterMap_map] at this;have e2:((λx=>xs[x]?) ∘ λx=>i+x)=λm=>xs[i+m]?:=rfl;rw [e2] at this;rw [this]
def ou {t sl:Addr}{items:Array Value}{vl vu:Value}{lo hi:Option Int}{Q:Value->Shared->Prop}(ht:IsTup s.heap t items)(hs:s.heap.IsSliceOf sl vl vu .none)(pl:IsPart vl lo)(pu:IsPart vu hi)
  (hw:¬(fA items.size 0 lo=0/\fA items.size items.size hi=items.size))
  (h:Q (.ref s.heap.objs.size) { s with heap:=s.heap.push { cls:=.type "tuple",data:=.seq ((items.toList.drop (fA items.size 0 lo)).take (fA items.size items.size hi - fA items.size 0 lo)).toArray } })
  (hsz:items.size<=sizeLine):wpAny (model prog w) A (getItem (.ref t) (.ref sl)) Q E s:=by
 have oh:sizeOk (.seq ((items.toList.drop (fA items.size 0 lo)).take (fA items.size items.size hi - fA items.size 0 lo)).toArray):=by
  show ((items.toList.drop (fA items.size 0 lo)).take (fA items.size items.size hi - fA items.size 0 lo)).toArray.size<=sizeLine;rw [bO,dD,mw,iG];omega
 have hj:fA items.size items.size hi<=items.size:=MI _ _ (aD _) hi;obtain⟨os,DM,Hz,IS⟩:=id hs;have RJ:s.TypeIs (.ref sl) "slice" := ⟨os,DM,Hz⟩;unfold getItem
 try with_reducible refine iW ?_
 first | refine aq (aH ?_) | skip
 refine aq (wpAny_sequenceKey ht.typeIs nofun ?_);refine aq (nr (name:=Str.ofString "__getitem__") ht.typeIs ny
  (j7 ny ht.typeIs entry_tuple_getitem ?_ (args_tuple_getitem _ _)))
 show wpAny _ _ (Builtin.Tuple.tupleItemsOf (.ref t) >>= _) _ _ s;refine aq (tupleItemsOf_ ht ?_);refine aq (jY RJ ?_);rw [ax nofun];refine aq (jj hs pl pu ?_);have hno:¬((((fA items.size 0 lo:Nat):Int) == 0 && (1:Int) == 1 && (fA items.size items.size hi - fA items.size 0 lo) == items.size)=true):=by
  intro q;rw [kT,kT] at q;have q1:((fA items.size 0 lo:Nat):Int)=0:=eq_of_beq q.1.1;have q2:fA items.size items.size hi - fA items.size 0 lo=items.size:=eq_of_beq q.2;exact hw ⟨∅,∅⟩
 show wpAny _ _ (if (((fA items.size 0 lo:Nat):Int) == 0 && (1:Int) == 1 && (fA items.size items.size hi - fA items.size 0 lo) == items.size)=true then _ else _) _ _ s;rw [aw hno,Gb]
 first
  | exact aq (m:=Builtin.Tuple.tupleExact _) (gI (aH ⟨_,rfl,aH h⟩) oh)
  | exact aq (m:=Builtin.Tuple.tupleExact _) (gI (aq (aH (aH ⟨_,rfl,aH h⟩))) oh)
  | exact aq (aq (m:=Builtin.Tuple.tupleExact _) (gI (aH (aH ⟨_,rfl,aH h⟩)) oh))
  | exact aq (aq (m:=Builtin.Tuple.tupleExact _) (gI (aH ⟨_,rfl,aH h⟩) oh))
end
end HT
namespace L2
open PySem PySem.Spec PyProof.Rows
abbrev TO:=St->Hp->(Option Int->Hp->Prop)->Prop
def PO (X:Cx)(e:Option Expr)(t:TO):Prop :=
 ∀(ag:List (Addr×Obj))(s:Shared)(σ:St)(H:Hp)(Q:Option Int->Hp->Prop),Inv X ag σ H s->t σ H Q ->
  wpAny (model X.prog X.w) X.A (evalPart e X.env) (λu s'=>∃o H',Inv X ag σ H' s'/\IsPart u o/\Q o H') X.xe s
def Jq:TO:=λ_ H Q=>Q none H
def PK (t:TE):TO:=λσ H Q=>t σ H λx H1=>XI1 x λi=>Q (some i) H1
def intsAre_of {ns:List Int}:∀{us:List Value},aY (ns.map V.int) us->IntsAre us ns:=by
 induction ns with
 | nil=>intro us r;rw [mn] at r;cases r;exact .nil
 | cons n ns ih =>
  intro us r;rw [cO] at r;cases r with
  | cons r1 r2 =>
   obtain⟨t,e⟩:=r1;subst e;exact .cons n t (ih r2)
section
variable {X:Cx}{e:Expr}{te:TE}{lo hi:Option Expr}{tl th:TO}{pos p2:Pos}
def hJ:PO X none Jq:=by
 intro ag s σ H Q I h;rw [evalPart_none];exact aH ⟨none,H,I,.none,h⟩
def fc (h:PE X e te):PO X (some e) (PK te):=by
 intro ag s σ H Q I hw;rw [evalPart_some];refine cX (h ag s σ H _ I hw) λu s1 bx=>?_;obtain⟨x,H1,I1,r1,q1⟩:=bx;obtain⟨i,rfl,q⟩:=q1;obtain⟨t,rfl⟩:=r1;exact⟨some i,H1,I1,.int i t,q⟩
def L_ (X:Cx)(r:V->Option Int->Option Int->Hp->VK->Prop):Prop :=
 ∀(ag:List (Addr×Obj))(s:Shared)(σ:St)(H:Hp)(x:V)(v vl vu:Value)(lo hi:Option Int)(sl:Addr)(Q:VK),Inv X ag σ H s->RelV x v->s.heap.IsSliceOf sl vl vu .none->IsPart vl lo->IsPart vu hi->r x lo hi H Q ->
  ∃T id,typeLookup (.type T) "__getitem__"=pure (some (.builtin id))/\s.TypeIs v T/\wpAny (model X.prog X.w) X.A (getItem v (.ref sl)) (EP X ag σ Q) X.xe s
def L_.or {r r':V->Option Int->Option Int->Hp->VK->Prop}(h:L_ X r)(h':L_ X r'):L_ X (λx lo hi H Q=>r x lo hi H Q\/r' x lo hi H Q):=by
 intro ag s σ H x v vl vu lo hi sl Q I rx hs pl pu q;rcases q with q | q
 .exact h ag s σ H x v vl vu lo hi sl Q I rx hs pl pu q
 exact h' ag s σ H x v vl vu lo hi sl Q I rx hs pl pu q
def tSl (r:V->Option Int->Option Int->Hp->VK->Prop)(te:TE)(tl th:TO):TE:=λσ H Q=>te σ H λx H1=>tl σ H1 λl H2=>th σ H2 λu H3=>r x l u H3 Q
def fJ {r:V->Option Int->Option Int->Hp->VK->Prop}(hr:L_ X r)(he:PE X e te)(hl:PO X lo tl)(hu:PO X hi th):PE X (.Subscript e (.Slice lo hi none p2) pos) (tSl r te tl th):=by
 intro ag s σ H Q I h;refine Subscript_ (cX (he ag s σ H _ I h) λv s1 bx=>?_);obtain⟨x,H1,I1,r1,q1⟩:=bx;refine wpAny_Slice (cX (hl ag s1 σ H1 _ I1 q1) λvl s2 bx=>?_);obtain⟨l,H2,I2,pl,q2⟩:=bx;refine cX (hu ag s2 σ H2 _ I2 q2) λvu s3 bx=>?_;obtain⟨u,H3,I3,pu,q3⟩:=bx;rw [evalPart_none];refine aH ?_;have I4:Inv X ag σ H3 { s3 with heap:=s3.heap.push { cls:=.type "slice",data:=.fields #[vl,vu,.none] } }:=I3.kept (t':=s3.toks) λb ob q=>bH _ q;obtain⟨T,id,hT,ht,hg⟩:=hr ag { s3 with heap:=s3.heap.push { cls:=.type "slice",data:=.fields #[vl,vu,.none] } } σ H3 x v vl vu l u s3.heap.objs.size Q I4 r1 (Heap.IsSliceOf.new ..) pl pu q3;show wpAny (model X.prog X.w) X.A (subscriptTail e (.Slice lo hi none p2) v (.ref s3.heap.objs.size)) (EP X ag σ Q) X.xe { s3 with heap:=s3.heap.push { cls:=.type "slice",data:=.fields #[vl,vu,.none] } };exact tail_any (ops:=[.ref s3.heap.objs.size,v]) ht hT hg (by with_unfolding_all rfl)
def gq (xs:List V)(lo hi:Option Int):List V:=(xs.drop (HT.fA xs.length 0 lo)).take (HT.fA xs.length xs.length hi - HT.fA xs.length 0 lo)
def ql (xs:List V)(lo hi:Option Int):(gq xs lo hi).length<=xs.length:=by
 unfold gq;rw [dD,mw];omega
def Vs (K:a8):V->Option Int->Option Int->Hp->VK->Prop:=λx lo hi H Q=>∃a xs,x=.ref a/\aR K H a xs /\
 ¬(HT.fA xs.length 0 lo=0/\HT.fA xs.length xs.length hi=xs.length)/\∀p,H p=none->Q (.ref p) (upd H p (.tup (gq xs lo hi)))
def Mx:L_ X (Vs X.K):=by
 intro ag s σ H x v vl vu lo hi sl Q I rx hs pl pu h;obtain⟨a,xs,rfl,hx,hw,q⟩:=h;cases rx;obtain⟨aN,r,ht,hz⟩:=I.tuple hx;have br:aN.toArray.size=xs.length:=by rw [bO];exact r.length.symm
 refine⟨"tuple",_,ny.lookup,ht.typeIs,?_⟩;refine HT.ou ht hs pl pu (by rw [br];exact hw) ?_ (by rw [br];exact hz);rw [br];refine⟨.ref s.heap.objs.size,_,I.laid (t':=s.toks) (o:=.tup (gq xs lo hi)) (λb ob q=>bH _ q) (aD _) ?_,rfl,q _ (I.bZ.fresh (aD _))⟩;exact⟨dI (ql xs lo hi) hz,_,(r.drop (HT.fA xs.length 0 lo)).take (HT.fA xs.length xs.length hi - HT.fA xs.length 0 lo),IsTup.new _ _⟩
def Qi (K:a8):R2:=λx y H Q=>∃a b xs ys,x=.ref a/\y=.ref b/\aR K H a xs/\aR K H b ys/\xs≠[]/\xs.length+ys.length<=sizeLine /\
 (ys=[]->Q (.ref a) H)/\(ys≠[]->∀p,H p=none->Q (.ref p) (upd H p (.tup (xs++ys))))
def aY.qM {xs:List V}{us:List Value}(r:aY xs us):us=[]↔xs=[]:=by
 cases r with
 | nil=>simp
 | cons _ _=>simp
def JM:kJ X (binaryOp .Add) (Qi X.K):=by
 intro ag s σ H x y v u Q I rx ry h;obtain⟨a,b,xs,ys,rfl,rfl,ha,hb,hx,hz,q1,q2⟩:=h;cases rx;cases ry;obtain⟨aN,r1,p1,_⟩:=I.tuple ha;obtain⟨d7,r2,p2,_⟩:=I.tuple hb;refine HT.KC p1 p2 (λz=>hx (r1.qM.mp z)) (λz=>⟨.ref a,H,I,rfl,q1 (r2.qM.mp z)⟩) (λz=>?_) (by rw [<-r1.length,<-r2.length];exact hz);refine⟨.ref s.heap.objs.size,_,I.laid (t':=s.toks) (o:=.tup (xs++ys)) (λb ob q=>bH _ q) (aD _) ?_,rfl,q2 (λw=>z (r2.qM.mpr w)) _ (I.bZ.fresh (aD _))⟩;exact⟨by rw [bp];exact hz,_,r1.append r2,IsTup.new _ _⟩
end
def Lp (n:Nat) (i:Int):Option Nat:=if 0<=i then (if i < n then some i.toNat else none) else if -(n:Int)<=i then some (i+n).toNat else none
def lS {α:Type}(xs:List α) (i:Int):Option α:=(Lp xs.length i).bind λj=>xs[j]?
def Ka {n:Nat}{i:Int}{j:Nat}(h:Lp n i=some j):seqIndex? i n=some j/\j < n/\-(n:Int)<=i/\i < n:=by
 unfold Lp at h;by_cases h0:0<=i
 .rw [ax h0] at h;by_cases h1:i < n
  .rw [ax h1] at h;have e:i.toNat=j:=iw h;exact⟨by rw [seqIndex_of h0 h1,e],∅,∅,h1⟩
  rw [aw h1] at h;cases h
 rw [aw h0] at h;by_cases h1:-(n:Int)<=i
 .rw [ax h1] at h;have e:(i+n).toNat=j:=iw h;exact⟨by rw [seqIndex_neg ∅ h1,e],∅,h1,∅⟩
 rw [aw h1] at h;cases h
def CD {α:Type}{xs:List α}{i:Int}{v:α}(h:lS xs i=some v):∃j,seqIndex? i xs.length=some j/\xs[j]?=some v/\j < xs.length/\-(xs.length:Int)<=i/\i < xs.length:=by
 unfold lS at h;cases e:Lp xs.length i with
 | none=>rw [e] at h;cases h
 | some j =>
  rw [e] at h;obtain⟨h1,h2,h3,h4⟩:=Ka e;exact⟨j,h1,h,h2,h3,h4⟩
def cf {α:Type}{xs:List α}{j:Nat}{v:α}(h:xs[j]?=some v):lS xs (j:Int)=some v:=by
 have hj:j < xs.length:=(bj.mp h).1;have e:Lp xs.length (j:Int)=some j:=by
  unfold Lp;rw [ax ∅,ax ∅];simp
 unfold lS;rw [e];exact h
def Ij {α:Type}(xs:List α)(v:α):lS (xs++[v]) (-1)=some v:=by
 have hl:(xs++[v]).length=xs.length+1:=by simp
 have e:Lp (xs++[v]).length (-1)=some xs.length:=by
  unfold Lp;rw [hl,aw nofun,ax ∅]
  congr 1
  omega
 unfold lS;rw [e];show (xs++[v])[xs.length]?=some v;simp
def KN (b:Expr):Prop:=∀o i,subscripted b false o i=operate [o,i] (getItem o i)
def KP (X:Cx)(r:R2):Prop :=
 ∀(value slice:Expr)(ag:List (Addr×Obj))(s:Shared)(σ:St)(H:Hp)(x y:V)(v u:Value)(Q:VK),Inv X ag σ H s->RelV x v->RelV y u->r x y H Q ->
  subscripted slice false v u=operate [v,u] (getItem v u)->wpAny (model X.prog X.w) X.A (subscriptTail value slice v u) (EP X ag σ Q) X.xe s
def Pn (X:Cx)(id:String)(r:V->List V->Hp->VK->Prop):Prop :=
 ∀(ag:List (Addr×Obj))(s:Shared)(σ:St)(H:Hp)(x:V)(xs:List V)(v:Value)(us:List Value)(Q:VK),Inv X ag σ H s->RelV x v->aY xs us->r x xs H Q ->
  wpAny (model X.prog X.w) X.A (call (.builtin id) (v::us)) (EP X ag σ Q) X.xe s
section
variable {X:Cx}{a b:Expr}{ta tb:TE}{pos:Pos}
def KP.or {r r':R2}(h:KP X r)(h':KP X r'):KP X (λx y H Q=>r x y H Q\/r' x y H Q):=by
 intro value slice ag s σ H x y v u Q I rx ry q hs;rcases q with q | q
 .exact h value slice ag s σ H x y v u Q I rx ry q hs
 exact h' value slice ag s σ H x y v u Q I rx ry q hs
def Pn.or {id:String}{r r':V->List V->Hp->VK->Prop}(h:Pn X id r)(h':Pn X id r'):Pn X id (λx xs H Q=>r x xs H Q\/r' x xs H Q):=by
 intro ag s σ H x xs v us Q I rx rs q;rcases q with q | q
 .exact h ag s σ H x xs v us Q I rx rs q
 exact h' ag s σ H x xs v us Q I rx rs q
def aP {r:R2}(hr:KP X r)(ha:PE X a ta)(hb:PE X b tb)(hs:KN b):PE X (.Subscript a b pos) (SW r ta tb):=by
 intro ag s σ H Q I h;exact Subscript_ (OA ha hb I h λv u s2 x y H2 I2 rx ry q=>hr a b ag s2 σ H2 x y v u Q I2 rx ry q (hs _ _))
inductive Yy (S:Addr->List V->Prop)(x y:V)(R:V->Prop):Prop
 | mk (p:Addr)(xs:List V) (i:Int)(v:V)(e:x=.ref p)(e2:y=.int i)(s:S p xs)(a:lS xs i=some v)(q:R v):Yy S x y R
def Qg (K:a8):R2:=λx y H Q=>Yy (aG K H) x y λv=>Q v H
def Qf (K:a8):R2:=λx y H Q=>Yy (aR K H) x y λv=>Q v H
def bT:KP X (Qg X.K):=by
 intro value slice ag s σ H x y v u Q I rx ry h hs;obtain⟨p,xs,i,z,rfl,rfl,hq,he,q⟩:=h;cases rx;obtain⟨t,rfl⟩:=ry;obtain⟨aN,r,pl,hz⟩:=I.list hq;obtain⟨j,h1,h2,h3,h4,h5⟩:=CD he;obtain⟨w,ew,Ae⟩:=r.get h2;have hl:=r.length;have hn:=wU;have fin:EP X ag σ Q w s:=⟨z,H,I,Ae,q⟩;by_cases h0:0<=i
 .have hj:i.toNat=j:=by
   rw [seqIndex_of h0 h5] at h1;exact iw h1
  exact item_listR pl.isList h0 ∅ (by rw [hj];simpa using ew) fin hs
 have hj:(i+(aN.toArray.size:Int)).toNat=j:=by
  rw [seqIndex_neg ∅ h4] at h1;rw [bO,<-hl];exact iw h1
 exact subscriptTail_builtinR (x:=w) pl.isList.typeIs slot_list_getitem.lookup
  (wpAny_getItem_list_neg (Q:=λr s'=>r=w/\EP X ag σ Q r s') pl.isList ∅ (by rw [bO] <;> omega) ∅ (by rw [hj];simpa using ew) ⟨rfl,fin⟩) hs
def bq:KP X (Qf X.K):=by
 intro value slice ag s σ H x y v u Q I rx ry h hs;obtain⟨p,xs,i,z,rfl,rfl,hq,he,q⟩:=h;cases rx;obtain⟨t,rfl⟩:=ry;obtain⟨aN,r,pl,hz⟩:=I.tuple hq;obtain⟨j,h1,h2,h3,h4,h5⟩:=CD he;obtain⟨w,ew,Ae⟩:=r.get h2;have hl:=r.length;have hn:=wU;have fin:EP X ag σ Q w s:=⟨z,H,I,Ae,q⟩;exact subscriptTail_builtinR (x:=w) pl.typeIs slot_tuple_getitem.lookup
  (getItem_tuple (j:=j) (Q:=λr s'=>r=w/\EP X ag σ Q r s') pl ∅ ∅ (by rw [bO,<-hl];exact h1) (by simpa using ew) ⟨rfl,fin⟩) hs
theorem Inv.lst {ag:List (Addr×Obj)}{σ:St}{H:Hp}{s:Shared}{p:Addr}{xs:List V}(I:Inv X ag σ H s)(h:H p=some (.lst xs)) :
  ∃(aN:List Value) (n:Nat),aY xs aN/\s.heap.get? p=some { cls:=.type "list",data:=.seq aN.toArray n }/\xs.length<=sizeLine:=by
 obtain⟨z,aN,n,r,e⟩:=I.bZ p _ h;exact⟨aN,n,r,e,z⟩
def v9 (lo hi:Option Int) (n:Nat):(sliceBounds lo hi none n).1=((HT.fA n 0 lo:Nat):Int)/\(sliceBounds lo hi none n).2.1=((HT.fA n n hi:Nat):Int)/\(sliceBounds lo hi none n).2.2=1:=by
 refine⟨?_,?_,rfl⟩
 .cases lo with
  | none=>simp [sliceBounds,HT.fA]
  | some i =>
   simp only [sliceBounds,HT.fA,Option.getD_none,show (1:Int) > 0 by decide,if_true];by_cases h:i < 0
   .simp only [h,if_true] <;> omega
   simp only [h,if_false] <;> omega
 cases hi with
 | none=>simp [sliceBounds,HT.fA]
 | some i =>
  simp only [sliceBounds,HT.fA,Option.getD_none,show (1:Int) > 0 by decide,if_true];by_cases h:i < 0
  .simp only [h,if_true] <;> omega
  simp only [h,if_false] <;> omega
def ug (aN:List Value)(lo hi:Option Int):slicePick aN.toArray lo hi none=((aN.drop (HT.fA aN.length 0 lo)).take (HT.fA aN.length aN.length hi - HT.fA aN.length 0 lo)).toArray:=by
 obtain⟨h1,h2,h3⟩:=v9 lo hi aN.toArray.size;unfold slicePick;rw [h1,h2,h3];simp only [sliceRange_one,pick_run,bO] <;> rfl
def Vt (K:a8):V->Option Int->Option Int->Hp->VK->Prop:=λx lo hi H Q=>∃a xs,x=.ref a/\aG K H a xs/\∀p,H p=none->Q (.ref p) (upd H p (.lst (gq xs lo hi)))
def jH:L_ X (Vt X.K):=by
 intro ag s σ H x v vl vu lo hi sl Q I rx hs pl pu h;obtain⟨a,xs,rfl,hx,q⟩:=h;cases rx;obtain⟨aN,r,ht,hz⟩:=I.list hx;have br:=r.length;refine⟨"list",_,slot_list_getitem.lookup,ht.isList.typeIs,?_⟩;refine wpAny_getItem_list_slice ht.isList hs pl pu .none (by simp) ?_ (by rw [bO] <;> omega)
 rw [ug,<-br];refine⟨.ref s.heap.objs.size,_,I.laid (t':=s.toks) (o:=.lst (gq xs lo hi)) (λb ob q=>bH _ q) (aD _) ?_,rfl,q _ (I.bZ.fresh (aD _))⟩;exact⟨dI (ql xs lo hi) hz,_,0,(r.drop (HT.fA xs.length 0 lo)).take (HT.fA xs.length xs.length hi - HT.fA xs.length 0 lo),cA _ rfl⟩
def gZ:V->Bool
 | .eV=>true
 | .bl _=>true
 | .int _=>true
 | .str _=>true
 | _=>false
def u3:V->V->Bool
 | .eV,.eV=>true
 | .bl a,.bl b=>a == b
 | .bl a,.int b=>(if a then 1 else 0) == b
 | .int a,.bl b=>a == (if b then 1 else 0)
 | .int a,.int b=>a == b
 | .str a,.str b=>a == b
 | _,_=>false
def A7 {A:Around}{s:Shared}{y x:V}{u v:Value}(ry:RelV y u)(rx:RelV x v)(fy:gZ y=true)(fx:gZ x=true):SeqAt.EqAt A s u v (u3 y x):=by
 cases y with
 | eV =>
  cases ry;cases x with
  | eV=>cases rx;exact SeqAt.EqAt.same _
  | bl b=>cases rx;exact SeqAt.EqAt.none_bool b
  | int b=>obtain⟨t,rfl⟩:=rx;exact SeqAt.EqAt.none_int b t
  | str b=>obtain⟨t,rfl⟩:=rx;exact SeqAt.EqAt.none_str b t
  | _=>exact absurd (show false=true from fx) c_
 | bl a =>
  cases ry;cases x with
  | eV=>cases rx;exact SeqAt.EqAt.bool_none a
  | bl b=>cases rx;exact SeqAt.EqAt.bool_bool a b
  | int b=>obtain⟨t,rfl⟩:=rx;exact SeqAt.EqAt.bool_int a b t
  | str b=>obtain⟨t,rfl⟩:=rx;exact SeqAt.EqAt.bool_str a b t
  | _=>exact absurd (show false=true from fx) c_
 | int a =>
  obtain⟨t',rfl⟩:=ry;cases x with
  | eV=>cases rx;exact SeqAt.EqAt.int_none a t'
  | bl b=>cases rx;exact SeqAt.EqAt.int_bool a t' b
  | int b=>obtain⟨t,rfl⟩:=rx;exact SeqAt.EqAt.int_int a t' b t
  | str b=>obtain⟨t,rfl⟩:=rx;exact SeqAt.EqAt.int_str a t' b t
  | _=>exact absurd (show false=true from fx) c_
 | str a =>
  obtain⟨t',rfl⟩:=ry;cases x with
  | eV=>cases rx;exact SeqAt.EqAt.str_none a t'
  | bl b=>cases rx;exact SeqAt.EqAt.str_bool a t' b
  | int b=>obtain⟨t,rfl⟩:=rx;exact SeqAt.EqAt.str_int a t' b t
  | str b=>obtain⟨t,rfl⟩:=rx;exact SeqAt.EqAt.str_str a t' b t
  | _=>exact absurd (show false=true from fx) c_
 | _=>exact absurd (show false=true from fy) c_
def A6 (x:V)(u:Value):Bool:=match u with
 | .none=>u3 .eV x
 | .bool b=>u3 (.bl b) x
 | .int i _=>u3 (.int i) x
 | .str z _=>u3 (.str z) x
 | _=>false
def HV {x y:V}{u:Value}(r:RelV y u)(f:gZ y=true):A6 x u=u3 y x:=by
 cases y with
 | eV=>cases r;rfl
 | bl b=>cases r;rfl
 | int i=>obtain⟨t,rfl⟩:=r;rfl
 | str z=>obtain⟨t,rfl⟩:=r;rfl
 | _=>exact absurd (show false=true from f) c_
theorem oH {x:V}:∀{xs:List V}{us:List Value},aY xs us->xs.all gZ=true->us.any (A6 x)=xs.any λy=>u3 y x
 | _,_,.nil,_=>rfl
 | y::xs,u::us,.cons r t,f=>by
  rw [List.all_cons,kT] at f;rw [qZ,qZ,HV r f.1,oH t f.2]
theorem k_ {A:Around}{s:Shared}{x:V}{v:Value}(rx:RelV x v)(fx:gZ x=true):∀{xs:List V}{us:List Value},aY xs us->xs.all gZ=true->∀u∈us,SeqAt.EqAt A s u v (A6 x u)
 | _,_,.nil,_=>λu hu=>by cases hu
 | y::xs,u::us,.cons r t,f=>λu' hu=>by
  rw [List.all_cons,kT] at f;rcases bY.mp hu with rfl | hu
  .rw [HV r f.1];exact A7 r rx f.1 fx
  exact k_ rx fx t f.2 u' hu
def Nv (x:V)(xs:List V):Bool:=xs.any λy=>u3 y x
inductive XIn (S:Addr->List V->Prop)(x y:V)(R:List V->Prop):Prop
 | mk (p:Addr)(xs:List V)(e:y=.ref p)(s:S p xs)(f:gZ x=true)(g:xs.all gZ=true)(q:R xs):XIn S x y R
def Tg (K:a8)(neg:Bool):R2:=λx y H Q=>XIn (λp xs=>aG K H p xs\/aR K H p xs) x y λxs=>Q (.bl (if neg then !Nv x xs else Nv x xs)) H
def pG:kJ X (compareOp .In) (Tg X.K false):=by
 intro ag s σ H x y v u Q I rx ry h;obtain⟨p,xs,rfl,hq,fx,fs,q⟩:=h;cases ry;rcases hq with hq | hq
 .obtain⟨aN,r,pl,hz⟩:=I.list hq;refine SeqAt.in_listAt (A6 x) pl.isList (λw hw=>k_ rx fx r fs w (by simpa using hw)) ⟨.bl _,H,I,rfl,?_⟩;rw [show aN.toArray.any (A6 x)=aN.any (A6 x) by simp,oH r fs];exact q
 obtain⟨aN,r,pl,hz⟩:=I.tuple hq;refine SeqAt.in_tupleAt (A6 x) pl (λw hw=>k_ rx fx r fs w (by simpa using hw)) ⟨.bl _,H,I,rfl,?_⟩;rw [show aN.toArray.any (A6 x)=aN.any (A6 x) by simp,oH r fs];exact q
def jO:kJ X (compareOp .NotIn) (Tg X.K true):=by
 intro ag s σ H x y v u Q I rx ry h;obtain⟨p,xs,rfl,hq,fx,fs,q⟩:=h;cases ry;rcases hq with hq | hq
 .obtain⟨aN,r,pl,hz⟩:=I.list hq;refine SeqAt.notIn_listAt (A6 x) pl.isList (λw hw=>k_ rx fx r fs w (by simpa using hw)) ⟨.bl _,H,I,rfl,?_⟩;rw [show aN.toArray.any (A6 x)=aN.any (A6 x) by simp,oH r fs];exact q
 obtain⟨aN,r,pl,hz⟩:=I.tuple hq;refine SeqAt.notIn_tupleAt (A6 x) pl (λw hw=>k_ rx fx r fs w (by simpa using hw)) ⟨.bl _,H,I,rfl,?_⟩;rw [show aN.toArray.any (A6 x)=aN.any (A6 x) by simp,oH r fs];exact q
def aK:ij X (.builtin "len") (λxs H Q=>Sw xs (λp ys=>aG X.K H p ys\/aR X.K H p ys) λys=>Q (.int ys.length) H):=by
 intro ag s σ H xs us Q I r h;obtain⟨p,ys,rfl,hq,q⟩:=h;obtain⟨u,rfl,rx⟩:=vals1 r;cases rx;have hn:=wU;rcases hq with hq | hq
 .obtain⟨aN,r',pl,hz⟩:=I.list hq;have br:=r'.length;exact Calls.call_len_list pl.isList (by simp only [bO] <;> omega) ⟨.int ys.length,H,I.tok _,⟨s.toks+1,by rw [bO,br]⟩,q⟩
 obtain⟨aN,r',pl,hz⟩:=I.tuple hq;have br:=r'.length;exact len_tuple pl (by simp only [bO] <;> omega) ⟨.int ys.length,H,I.tok _,⟨s.toks+1,by rw [bO,br]⟩,q⟩
def ij.or {f:Value}{r r':List V->Hp->VK->Prop}(h:ij X f r)(h':ij X f r'):ij X f (λxs H Q=>r xs H Q\/r' xs H Q):=by
 intro ag s σ H xs us Q I rs q;rcases q with q | q
 .exact h ag s σ H xs us Q I rs q
 exact h' ag s σ H xs us Q I rs q
def cZ:ij X (.type "list") (λxs H Q=>∃p ys,xs=[.ref p]/\(aG X.K H p ys\/aR X.K H p ys)/\∀l,H l=none->Q (.ref l) (upd H l (.lst ys))):=by
 intro ag s σ H xs us Q I r h;obtain⟨p,ys,rfl,hq,q⟩:=h;obtain⟨u,rfl,rx⟩:=vals1 r;cases rx;have fin:∀(aN:List Value),aY ys aN->ys.length<=sizeLine->∀(h':Heap) (c':Nat),(∀b o',s.heap.get? b=some o'->h'.get? b=some o') ->
   h'.get? s.heap.objs.size=some { cls:=.type "list",dict:=none,data:=.seq aN.toArray c',slots:=#[] }->EP X ag σ Q (.ref s.heap.objs.size) { s with heap:=h' }:=λaN r' hz h' c' kp e =>
  ⟨.ref s.heap.objs.size,_,I.laid (t':=s.toks) kp (aD _) (show cM X.prog X.w _ h' _ (.lst ys) from ⟨hz,aN,c',r',e⟩),rfl,q _ (I.bZ.fresh (aD _))⟩
 rcases hq with hq | hq
 .obtain⟨aN,r',pl,hz⟩:=I.list hq;have br:=r'.length;obtain⟨o,ho,hc,n,hd⟩:=pl.isList;exact call_list_seq p (.inl rfl) ho hc hd (λh' c' kp e=>fin aN r' hz h' c' kp e) (by simp only [bO] <;> omega)
 obtain⟨aN,r',pl,hz⟩:=I.tuple hq;have br:=r'.length;obtain⟨o,ho,hc,n,hd⟩:=pl;exact call_list_seq p (.inr rfl) ho hc hd (λh' c' kp e=>fin aN r' hz h' c' kp e) (by simp only [bO] <;> omega)
def eY:ij X (.type "tuple") (λxs H Q=>∃p ys,xs=[.ref p]/\((aG X.K H p ys/\∀l,H l=none->Q (.ref l) (upd H l (.tup ys)))\/(aR X.K H p ys/\Q (.ref p) H))):=by
 intro ag s σ H xs us Q I r h;obtain⟨p,ys,rfl,h⟩:=h;obtain⟨u,rfl,rx⟩:=vals1 r;cases rx;rcases h with ⟨hq,q⟩ | ⟨hq,q⟩
 .obtain⟨aN,r',pl,hz⟩:=I.list hq;have br:=r'.length;refine call_tuple_list pl.isList (λh' kp=>?_) (by simp only [bO] <;> omega)
  have I1:Inv X ag σ H { s with heap:=h' }:=I.kept (t':=s.toks) kp;have I2:Inv X ag σ (upd H h'.objs.size (.tup ys)) { s with heap:=h'.push { cls:=.type "tuple",data:=.seq aN.toArray } } :=
   I1.laid (t':=s.toks) (λb o e=>bH _ e) (aD _) (show cM X.prog X.w _ _ _ (.tup ys) from ⟨hz,aN,r',IsTup.new _ _⟩)
  exact⟨.ref h'.objs.size,_,I2,rfl,q _ (I1.bZ.fresh (aD _))⟩
 obtain⟨aN,r',pl,hz⟩:=I.tuple hq;exact call_tuple_same pl ⟨.ref p,H,I,rfl,q⟩
def UU (K:a8)(T:String)(x:V)(H:Hp):Prop:=match x with
 | .str _=>T = "str"
 | .int _=>T = "int"
 | .ref p=>(T = "list" /\ ∃xs,aG K H p xs)\/(T = "tuple" /\ ∃o,K.lookup p=some o/\o.cls=.type "tuple" /\ o.dict=none) \/
   (T = "dict" /\ ((∃kvs,H p=some (.dK kvs))\/∃kvs,H p=some (.dT kvs)))\/(T = "set" /\ ∃S n,H p=some (.set S n))
 | _=>False
def Ff {ag:List (Addr×Obj)}{σ:St}{H:Hp}{s:Shared}{T:String}{x:V}{v:Value}(I:Inv X ag σ H s)(r:RelV x v)(ty:UU X.K T x H) :
  s.TypeIs v T/\∀a,v=.ref a->∃ob,s.heap.get? a=some ob/\ob.dict=none:=by
 cases x with
 | str z =>
  obtain⟨t,rfl⟩:=r;cases (show T = "str" from ty);exact⟨typeIs_str s z t,λ_ e=>nomatch e⟩
 | int i =>
  obtain⟨t,rfl⟩:=r;cases (show T = "int" from ty);exact⟨typeIs_int s i t,λ_ e=>nomatch e⟩
 | ref p =>
  cases r;rcases ty with ⟨rfl,xs,hq⟩ | ⟨rfl,o,hk,hc,hd⟩ | ⟨rfl,hk⟩ | ⟨rfl,S,n,hk⟩
  .obtain⟨aN,_,pl,_⟩:=I.list hq;refine⟨pl.isList.typeIs,λa e=>?_⟩;cases e;obtain⟨o,n,e,c,hd,_⟩:=pl;exact⟨o,e,hd⟩
  .refine⟨⟨o,I.wX p o hk,hc⟩,λa e=>?_⟩;cases e;exact⟨o,I.wX _ o hk,hd⟩
  .have z:∃o,s.heap.get? p=some o/\o.ExactDict:=by
    rcases hk with ⟨kvs,hk⟩ | ⟨kvs,hk⟩
    .obtain⟨_,_,_,_,o,_,_,e,ex,_⟩:=I.bZ p _ hk;exact⟨o,e,ex⟩
    obtain⟨_,_,_,_,o,_,_,e,ex,_⟩:=I.bZ p _ hk;exact⟨o,e,ex⟩
   obtain⟨o,e,ex⟩:=z;refine⟨⟨o,e,ex.1⟩,λa e2=>?_⟩;cases e2;exact⟨o,e,ex.2.1⟩
  obtain⟨o,_,_,_,e,ex,_⟩:=I.bZ p _ hk;refine⟨⟨o,e,ex.1⟩,λa e2=>?_⟩;cases e2;exact⟨o,e,ex.2.1⟩
 | _=>exact False.elim ty
def U9 (K:a8)(T:String)(r:V->List V->Hp->VK->Prop)(to:TE):TE:=λσ H Q=>to σ H λx H1=>UU K T x H1/\r x [] H1 Q
def tBM (K:a8)(T:String)(r:V->List V->Hp->VK->Prop)(to:TE)(t:TA):TE:=λσ H Q=>to σ H λx H1=>UU K T x H1/\t σ H1 λxs H2=>r x xs H2 Q
variable {o e:Expr}{es:List Expr}{to:TE}{t:TA}{name:Str}{apos gU:Pos}{T id:String}{r:V->List V->Hp->VK->Prop}
def Gi (pa:PlainAttrs T)(slot:Slot T name id)(Ww:typeOf (.builtin id)=pure (.type "method_descriptor"))(hm:Pn X id r)(ho:PE X o to)
  (HH:attributeBase o name X.env (eval o X.env)=eval o X.env:=by rfl)(Ht:(apos.endLine == gU.line)=true:=by rfl):PE X (.Call (.Attribute o name apos) [] [] gU) (U9 X.K T r to):=by
 intro ag s σ H Q I h;refine wpAny_Call_method0_late HH Ht (cX (ho ag s σ H _ I h) λv s1 bx=>?_);obtain⟨x,H1,I1,r1,ty,q1⟩:=bx;obtain⟨h1,h2⟩:=Ff I1 r1 ty;exact⟨T,id,pa,slot,Ww,h1,h2,rG rfl (PySem.evalArgs_none (hm ag s1 σ H1 x [] v [] Q I1 r1 .nil q1))⟩
def gR (pa:PlainAttrs T)(slot:Slot T name id)(Ww:typeOf (.builtin id)=pure (.type "method_descriptor"))(hm:Pn X id r)(ho:PE X o to)(ha:PA X (e::es) t)
  (HH:attributeBase o name X.env (eval o X.env)=eval o X.env:=by rfl)
  (W5:((backTo gU (starEach (e::es) X.env)).all (λx=>!x.1) && (backToKw gU (keywordEach [] X.env)).all (λx=>x.1.isSome)
   && decide ((e::es).length+([]:List Keyword).length+(if ([]:List Keyword).isEmpty then 0 else 1) < 30))=true:=by rfl)
  (Ht:(apos.endLine == gU.line)=true:=by rfl)(hs:starEach (e::es) X.env=(false,eval e X.env)::starEach es X.env:=by rfl)(NA:(backTo gU (starEach es X.env)).any (·.1)=false:=by rfl) :
  PE X (.Call (.Attribute o name apos) (e::es) [] gU) (tBM X.K T r to t):=by
 intro ag s σ H Q I h;refine wpAny_Call_method_late HH W5 Ht rfl (cX (ho ag s σ H _ I h) λv s1 bx=>?_);obtain⟨x,H1,I1,r1,ty,q1⟩:=bx;obtain⟨h1,h2⟩:=Ff I1 r1 ty;refine⟨T,id,pa,slot,Ww,h1,h2,?_⟩;have hA:=ha gU ag s1 σ H1 _ I1 q1;rw [hs] at hA ⊢;refine rG (by show (false || (backTo gU (starEach es X.env)).any (·.1))=false;rw [NA] <;> rfl) (vC ?_)
 refine cX hA λus s2 bx=>?_;obtain⟨vs,H2,I2,r2,q2⟩:=bx;exact hm ag s2 σ H2 x vs v us Q I2 r1 r2 q2
end
def YE (X:Cx)(id:String)(r:V->List V->Hp->VK->Prop):Prop :=
 ∀(ag:List (Addr×Obj))(s:Shared)(σ:St)(H:Hp)(x:V)(xs:List V)(v:Value)(us:List Value)(Q:VK),Inv X ag σ H s->RelV x v->aY xs us->r x xs H Q ->
  wpAny (model X.prog X.w) X.A (call (.builtin id) (v::us)) (EP X ag σ Q) X.xe s
def aY.one:∀{x:V}{us:List Value},aY [x] us->∃u,us=[u]/\RelV x u
 | _,_,.cons r .nil=>⟨_,rfl,r⟩
def aY.two:∀{x y:V}{us:List Value},aY [x,y] us->∃u v,us=[u,v]/\RelV x u/\RelV y v
 | _,_,_,.cons r (.cons q .nil)=>⟨_,_,rfl,r,q⟩
def aY.zero:∀{us:List Value},aY [] us->us=[]
 | _,.nil=>rfl
theorem aY.dropLast {xs:List V}{us:List Value}(h:aY xs us):aY xs.dropLast us.dropLast:=by
 induction h with
 | nil=>exact .nil
 | cons r t ih =>
  cases t with
  | nil=>exact .nil
  | cons q t'=>exact .cons r ih
theorem aY.eraseIdx:∀{xs:List V}{us:List Value}(i:Nat),aY xs us->aY (xs.eraseIdx i) (us.eraseIdx i)
 | _,_,_,.nil=>.nil
 | _,_,0,.cons _ t=>t
 | _,_,i+1,.cons r t=>.cons r (aY.eraseIdx i t)
theorem aY.reverse {xs:List V}{us:List Value}(h:aY xs us):aY xs.reverse us.reverse:=by
 induction h with
 | nil=>exact .nil
 | cons r t ih=>rw [mC,mC];exact aY.append ih (.cons r .nil)
def A5 {α:Type}(l:List α):l.eraseIdx (l.length - 1)=l.dropLast:=by
 induction l with
 | nil=>rfl
 | cons a r ih =>
  cases r with
  | nil=>rfl
  | cons b r =>
   have e:(a::b::r).length - 1=((b::r).length - 1)+1:=by
    have h1:(a::b::r).length=r.length+2:=rfl;have h2:(b::r).length=r.length+1:=rfl;omega
   rw [e,List.eraseIdx_cons_succ,ih]
   all_goals rfl
section
variable {X:Cx}{ag:List (Addr×Obj)}{σ:St}{H:Hp}{s:Shared}{l b:Addr}{xs ys zs:List V}
def Inv.Nd {aN uj:List Value}{n:Nat}{f:Array Value->Array Value}{t':Nat}(I:Inv X ag σ H s)(hH:H l=some (.lst xs))
  (e:s.heap.get? l=some { cls:=.type "list",data:=.seq aN.toArray n })(hf:f aN.toArray=uj.toArray)(hv:aY ys uj)(hz:ys.length<=sizeLine) :
  Inv X ag σ (upd H l (.lst ys)) { s with heap:=s.heap.update l (Obj.mapSeq f),toks:=t' }:=by
 have q:=PySem.IsL.update e f;rw [hf] at q;refine I.write (x:=l) (e:=l) (by rw [hH];exact trivial) (.inl rfl) (λb' u hb hu=>(vK s.heap (Obj.mapSeq f) (fq hb)).trans hu) ⟨_,q⟩ ?_;exact⟨hz,uj,_,hv,q⟩
def Inv.V4 {aN:List Value}{t':Nat}(I:Inv X ag σ H s)(hv:aY ys aN)(hz:ys.length<=sizeLine) :
  Inv X ag σ (upd H s.heap.objs.size (.lst ys)) { s with heap:=s.heap.push { cls:=.type "list",data:=.seq aN.toArray },toks:=t' } :=
 I.laid (λ_ _ q=>bH _ q) (aD _) ⟨hz,aN,0,hv,cA _ rfl⟩
theorem Inv.fresh (I:Inv X ag σ H s):H s.heap.objs.size=none:=I.bZ.fresh (aD _)
def Inv.Dz (I:Inv X ag σ H s)(hH:H l=some (.lst xs)):xs.length<=sizeLine/\∃(aN:List Value) (n:Nat),aY xs aN/\xs.length=aN.length/\s.heap.get? l=some { cls:=.type "list",data:=.seq aN.toArray n }:=by
 obtain⟨z,aN,n,r,e⟩:=I.bZ l _ hH;exact⟨z,aN,n,r,r.length,e⟩
def GV {n:Nat}(h:n<=sizeLine):Builtin.List.listTooLong n=false:=by
 unfold Builtin.List.listTooLong;exact cV ∅
end
section
variable {X:Cx}
inductive Sx (H:Hp)(x:V)(vs:List V)(R:Addr->List V->V->Prop):Prop
 | mk (l:Addr)(xs:List V)(y:V)(e:x=.ref l)(e2:vs=[y])(h:H l=some (.lst xs))(z:xs.length < sizeLine)(q:R l xs y):Sx H x vs R
def JC:V->List V->Hp->VK->Prop:=λx vs H Q=>Sx H x vs λl xs y=>Q .eV (upd H l (.lst (xs++[y])))
def bM:YE X "list.append" JC:=by
 intro ag s σ H x vs v us Q I rx rv h;obtain⟨l,xs,y,rfl,rfl,hH,hz,q⟩:=h;cases rx;obtain⟨u,rfl,ru⟩:=rv.one;obtain⟨z,aN,n,r,hl,e⟩:=I.Dz hH;refine call_meets F.slot_list_append ⟨_,e,rfl⟩ F.entry_list_append (F.args_list_append_2 _ _) (PySem.list_append l aN.toArray n u (by rw [bO];omega)) ⟨e,?_⟩;refine⟨.eV,_,I.Nd (uj:=aN++[u]) hH e (by simp) (r.append (.cons ru .nil)) ?_,rfl,q⟩;rw [bp,d_];omega
def JB:V->List V->Hp->VK->Prop:=λx vs H Q=>∃l b xs zs,x=.ref l/\vs=[.ref b]/\H l=some (.lst xs)/\H b=some (.lst zs)/\xs.length+zs.length<=sizeLine/\Q .eV (upd H l (.lst (xs++zs)))
def OQ:YE X "list.extend" JB:=by
 intro ag s σ H x vs v us Q I rx rv h;obtain⟨l,b,xs,zs,rfl,rfl,hH,hB,hz,q⟩:=h;cases rx;obtain⟨u,rfl,ru⟩:=rv.one;cases ru;obtain⟨z,aN,n,r,hl,e⟩:=I.Dz hH;obtain⟨z2,d7,n2,r2,um,e2⟩:=I.Dz hB;have hsz:aN.toArray.size+d7.toArray.size<=sizeLine:=by rw [bO,bO];omega
 have Rn:¬(!aN.toArray.isEmpty && Builtin.List.listTooLong (aN.toArray.size+d7.toArray.size))=true:=by
  rw [GV hsz,oS];exact c_
 refine call_meets F.slot_list_extend ⟨_,e,rfl⟩ F.entry_list_extend (F.args_list_extend_2 _ _)
  (AutoSeq1.list_extend_list_list_0 l aN.toArray n b d7.toArray n2 Rn (by rw [bO];omega) ∅) ⟨e,e2,?_⟩
 refine⟨.eV,_,I.Nd (uj:=aN++d7) hH e (by simp) (r.append r2) ?_,rfl,q⟩;rw [bp];omega
def Vu:V->List V->Hp->VK->Prop:=λx vs H Q=>∃l xs y,x=.ref l/\vs=[]/\H l=some (.lst xs)/\xs[xs.length - 1]?=some y/\Q y (upd H l (.lst xs.dropLast))
def G4:YE X "list.pop" Vu:=by
 intro ag s σ H x vs v us Q I rx rv h;obtain⟨l,xs,y,rfl,rfl,hH,hy,q⟩:=h;cases rx;have hus:=rv.zero;subst hus;obtain⟨z,aN,n,r,hl,e⟩:=I.Dz hH;obtain⟨u,hu,ru⟩:=r.get hy;have Ws:aN.toArray[aN.toArray.size - 1]?=some u:=by
  show aN.toArray[aN.length - 1]?=some u;rw [<-qW,<-hl];exact hu
 refine call_meets F.slot_list_pop ⟨_,e,rfl⟩ F.entry_list_pop (F.args_list_pop_1 _) (MeetsSeq.list_pop_last l aN.toArray n u Ws (by rw [bO];omega)) ⟨e,?_⟩;refine⟨y,_,I.Nd (uj:=aN.dropLast) hH e ?_ r.dropLast ?_,ru,q⟩
 .show aN.toArray.eraseIdxIfInBounds (aN.toArray.size - 1)=aN.dropLast.toArray;rw [bO,List.eraseIdxIfInBounds_toArray,A5]
 rw [List.length_dropLast];omega
def Vw:R2:=λx y H Q=>∃l b xs zs,x=.ref l/\y=.ref b/\H l=some (.lst xs)/\H b=some (.lst zs)/\xs.length+zs.length<=sizeLine/\∀p,H p=none->Q (.ref p) (upd H p (.lst (xs++zs)))
def jP:kJ X (binaryOp .Add) Vw:=by
 intro ag s σ H x y v u Q I rx ry h;obtain⟨l,b,xs,zs,rfl,rfl,hH,hB,hz,q⟩:=h;cases rx;cases ry;obtain⟨z,aN,n,r,hl,e⟩:=I.Dz hH;obtain⟨z2,d7,n2,r2,um,e2⟩:=I.Dz hB;refine PySem.P.add_list e e2 ?_ (by rw [bO,bO];omega);have ea:aN.toArray++d7.toArray=(aN++d7).toArray:=by simp
 rw [ea];exact⟨.ref _,_,I.V4 (t':=s.toks) (r.append r2) (by rw [bp];omega),rfl,q _ I.fresh⟩
end
section
variable {prog:Program}{w:World}{A:Around}{E:Value->Shared->Prop}{s:Shared}
set_option maxRecDepth 100000 in
end
section
variable {X:Cx}
end
end L2
namespace Ji
open PySem PySem.W PySem.Calls PyProof.Rows
def qz {P:Params}{h:Heap}:∀(ns:List Int)(vs:List Value),WellAll P h vs (ns.map WData.int)->IntsAre vs ns:=by
 intro ns
 induction ns with
 | nil =>
  intro vs w;rw [mn] at w;cases w;exact .nil
 | cons n ns ih =>
  intro vs w;rw [cO] at w;cases w with
  | cons a b =>
   cases a;exact .cons _ _ (ih _ b)
def CV {l:OpenLaw}{n:Nat}(hn:l.most=some n){P:Params}{h:Heap}{args:List WData}{vals:List Value}
  (Kc:l.row.toRowW.claim.pre args=true)(Wu:WellAll P h vals args) :
  ∃a vs ns,vals=[Value.ref a]/\args=[WData.list (ns.map WData.int)]/\h.get? a=some { cls:=.type "list",data:=.seq vs.toArray }/\IntsAre vs ns/\ns.length<=n:=by
 have hsh:WShape.hasAll [] args [.list .int]=true:=(pre_splitW Kc).1;have hc:l.pre.holds [] { args:=args }=true:=(pre_splitW Kc).2;obtain⟨d,r,rfl,h1,h2⟩:=hasAllW_cons hsh;obtain rfl:=hasAllW_nil h2;obtain⟨xs,rfl,h3⟩:=hasW_list h1;obtain⟨ns,rfl⟩:=items_int h3;have br:ns.length<=n:=by
  unfold OpenLaw.pre at hc;have h4:(WTm.not (.lt (.lit (.int (n:Int))) (.len (.arg 0)))).holds [] { args:=[.list (ns.map .int)] }=true:=by
   have h4:=(holds_andW hc).1;rw [hn] at h4;exact h4
  have h5:=condW_of h4 (w_not (w_lt w_lit (w_len_list (w_arg rfl))));rw [av] at h5;refine Nat.le_of_not_lt λq=>?_;have q':(n:Int) < ((ns.length:Nat):Int):=by omega
  first
   | (rw [bN q'] at h5;exact absurd h5 nofun)
   | (simp at h5;omega)
 cases Wu with
 | cons w1 w2 =>
  cases w2;cases w1 with
  | list ho qC=>exact⟨_,_,ns,rfl,rfl,ho,qz ns _ qC,br⟩
def Dg (l:OpenLaw)(args:List WData):l.row.toRowW.claim.post args (.bool true) args=true :=
 postW_of (r:=l.row.toRowW) (X:=(true == true))
  (show WShape.has [] (.bool true) .bool=true by first | rfl | decide | simp [WShape.has,WShape.arms,WShape.armsAll])
  (show (WTm.eq .res (.lit (.bool true))).value [] { args:=args,res:=some (.bool true),after:=args }=some (.bool (true == true)) from w_eq_bool (w_res rfl) w_lit) rfl
def qr {l:OpenLaw}{n:Nat}{q:Program}{loose:List Str}{XP:(Str->Option Value)->Heap->Prop}{YP:World->Heap->Prop}{d:DefRec}
  (hn:l.most=some n)(NO:d.params.defaults=[])
  (call:∀(w:World)(s₀ s₁:Shared)(mg mb:Str->Option Value)(fa:Addr)(o:Obj)(pm cd doc:Value)(a:Addr)(vs:List Value)(ns:List Int),
   Ground q loose [] XP w s₀ mg mb s₁.heap->YP w s₁.heap ->
   s₁.heap.get? fa=some o->o.data=.func (docDef d.name d.params d.body d.scope pm cd doc)->s₁.heap.CodeRec cd d.name->mg d.name=some (.ref fa) ->
   s₁.heap.get? a=some { cls:=.type "list",data:=.seq vs.toArray }->IntsAre vs ns->ns.length<=n->s₁.gens=#[] ->
   codeAny (model l.prog w) callerA (.call (.ref fa) ⟨[.ref a],[]⟩) (λr s'=>r=.ok (.ret (.bool true))/\OldK s₁.heap s'.heap/\s'.os=s₁.os/\AllBare s'.gens) s₁) :
  WalkO q loose XP YP l.row.toRowW d [] (λf vs=>PySem.call f vs):=by
 intro w s₀ s₁ mg mb G Y fa o pm cd doc dV kV ho hd w6 hD NF hg args vals as Kc aam hrd Wu hlo;obtain rfl:dV=.none:=Dflts.none hD NO;obtain rfl:kV=.none:=Dflts.noKw hD;obtain⟨a,vs,ns,rfl,rfl,Ho,hints,br⟩:=CV hn Kc Wu;refine enter_call (jA (call w s₀ s₁ mg mb fa o pm cd doc a vs ns G Y ho (fd_plain hd) w6 NF Ho hints br hg) λr s' hq=>?_);obtain⟨rfl,h2,h3,h4⟩:=hq;exact⟨.inl ⟨.bool true,.bool true,[],rfl,λ_=>rfl,.bool true,Dg l _,λ_=>⟨List.Pairwise.nil,λ_ hm=>(nomatch hm)⟩⟩,h2,h3,h4⟩
section
variable {prog:Program}{w:World}{A:Around}{E:Value->Shared->Prop}{s:Shared}{K:Frag}
def sH (h:Heap):Heap:={ h with objs:=#[] }
def mJ (h:Heap)(b:Addr):(sH h).get? b=none:=by
 cases e:(sH h).get? b with
 | none=>rfl
 | some o=>exact absurd (bu e) (rj _)
def ledger (h:Heap)(L d:Addr):List (Addr×Obj):=(List.range h.objs.size).filterMap λa=>if a=L\/a=d then none else (h.get? a).map λo=>(a,o)
def jQ {h:Heap}{L d a:Addr}{o:Obj}:(a,o)∈ledger h L d↔a≠L/\a≠d/\h.get? a=some o:=by
 unfold ledger;rw [List.mem_filterMap];constructor
 .rintro⟨b,_,e⟩
  split at e
  .cases e
  rename_i hb
  obtain⟨o',ho,e'⟩:=cg.mp e;cases e';exact⟨λq=>hb (.inl q),λq=>hb (.inr q),ho⟩
 rintro⟨n1,n2,ho⟩;refine⟨a,jD.mpr (bu ho),?_⟩;rw [aw (show ¬(a=L\/a=d) from λq=>q.elim n1 n2),ho] <;> rfl
def yq {h:Heap}{L d:Addr}{od:Obj}(EX:d≠L)(ho:h.get? d=some od):News (sH h) L h ([]++(d,od)::ledger h L d):=by
 rintro⟨a,o⟩ hp;rcases bY.mp hp with e | hp
 .cases e;exact⟨ho,EX,mJ _ _⟩
 obtain⟨n1,n2,e⟩:=jQ.mp hp;exact⟨e,n1,mJ _ _⟩
def N3 {h:Heap}{L:Addr}{m:Str->Option Value}(n:h.Ns L m):Fr (sH h) L h m :=
 ⟨n,λb o e=>(by rw [mJ] at e;cases e),fj _⟩
end
end Ji
namespace L2
open PySem PySem.Spec PyProof.Rows
theorem ph:∀{vs:List Value}{ns:List Int},IntsAre vs ns->aY (ns.map V.int) vs
 | _,_,.nil=>.nil
 | _,_,.cons n t h=>.cons ⟨t,rfl⟩ (ph h)
def OE (H:Hp):Prop:=∀b,H b=none\/∃o xs,H b=some (.kx o (.lst xs))
def G_ {P:Program}{w:World}{K:a8}{mg mb:Str->Option Value}{CX:zE}{k:Nat}{fa a:Addr}{fd:FuncData}{x:Str}{sp:Sp}{s₁:Shared}{vs:List Value}{ns:List Int}
  (KX:K.In s₁.heap)(xx:s₁.heap.Ns mainGlobals mg)(hb:s₁.heap.Ns builtinsNs mb)(NS:∀x:Str,x ≠ "__name__" -> mb x=bootBuiltins x)(NH:s₁.heap.NoLimit)(hg:s₁.gens=#[])
  (ha:s₁.heap.get? a=some { cls:=.type "list",data:=.seq vs.toArray })(hi:IntsAre vs ns)(hl:ns.length<=sizeLine)(hr:fh k callerA)
  (F:∀base:Heap,K.In base->base.Ns mainGlobals mg->bR P w K mg base CX k fa fd [x] sp)(oo:∀(s:Shared)(u:Value),BindsTo s fd ⟨[u],[]⟩ [(x,u)])
  (zw:∀H:Hp,OE H->aG K H a (ns.map V.int)->sp [.ref a] H (λv _=>v=.bl true) λ_ _ _=>False)
  (NX:∀H e s',CX [] H s₁ (λ_ _ _=>False) e s'->False) :
  codeAny (model P w) callerA (.call (.ref fa) ⟨[.ref a],[]⟩) (λr s'=>r=.ok (.ret (.bool true))/\OldK s₁.heap s'.heap/\s'.os=s₁.os/\AllBare s'.gens) s₁:=by
 have rv:=ph hi;have Nh:=hi.length;have core:∀H:Hp,OE H->aG K H a (ns.map V.int)->mj P w H s₁.heap->(∀b,H b≠none->b=a)->(H a≠none->K.lookup a=none) ->
   codeAny (model P w) callerA (.call (.ref fa) ⟨[.ref a],[]⟩) (λr s'=>r=.ok (.ret (.bool true))/\OldK s₁.heap s'.heap/\s'.os=s₁.os/\AllBare s'.gens) s₁:=by
  intro H hO hS bZ hA hK;have lQ:∀{b:Addr}{o:Obj},s₁.heap.get? b=some o->H b=none->(mR s₁.heap H).get? b=some o:=λe n=>yB e n;have Qw:∀{b:Addr}{o:Obj}{es:Array DictEntry}{ep:Nat},s₁.heap.get? b=some o->o.data=.dict es ep->H b=none:=λ{b o es ep} e d=>by
   cases q:H b with
   | none=>rfl
   | some u =>
    have e':b=a:=hA b (by rw [q];simp);subst e';rw [ha] at e;cases e;have d':Data.seq vs.toArray _=Data.dict es ep:=d;cases d'
  have JV:∀{b:Addr}{m:Str->Option Value},s₁.heap.Ns b m->(mR s₁.heap H).Ns b m:=λ{b m} ⟨o,es,ep,e,d,r⟩=>⟨o,es,ep,lQ e (Qw e d),d,r⟩;have RK:K.In (mR s₁.heap H):=λb o e=>lQ (KX b o e) (by
   cases q:H b with
   | none=>rfl
   | some u =>
    have e':b=a:=hA b (by rw [q];simp);subst e';rw [hK (by rw [q];simp)] at e;cases e)
  have hM:Mod K mg (mR s₁.heap H):=⟨RK,JV xx,⟨mb,JV hb,NS⟩,let ⟨mc,h1,h2⟩:=NH;⟨mc,JV h1,h2⟩⟩;have e0:qG P w K mg (mR s₁.heap H) callerA [] s₁ H:=⟨rfl,hM,λb o e=>Cf e,Nat.le_of_eq (uV _ _),trivial,λb hb=>absurd (show b∈([]:List Addr) from hb) (by simp),bZ,.of_eq hg⟩;refine jA ((F _ RK (JV xx)).run callerA [] s₁ H ⟨[.ref a],[]⟩ [.ref a] [.ref a] _ _ hr e0 (oo s₁ (.ref a)) (.cons rfl .nil) (zw H hO hS)) λr s' h=>?_;cases r with
  | error e=>exact(NX H e s' h).elim
  | ok fl =>
   cases fl with
   | next=>exact False.elim h
   | brk=>exact False.elim h
   | cont=>exact False.elim h
   | ret u =>
    obtain⟨v,H',os,bare,un,Kd,r',q⟩:=h;have q':v=.bl true:=q;subst q';obtain rfl:u=Value.bool true:=r';refine⟨rfl,OldK.of_keep λb o e=>?_,os,bare⟩;cases q:H b with
    | none=>exact un.keep b o e q (by intro z;exact absurd (show b∈([]:List Addr) from z) (by simp)) (by simp)
    | some u =>
     rcases hO b with z | ⟨ob,xs,z⟩
     .rw [q] at z;cases z
     have z2:=un.mT b ob _ z;obtain⟨e1,_⟩:=bZ b _ z;obtain⟨e2,_⟩:=Kd b _ z2;rw [e] at e1;cases e1;exact e2
 cases hk:K.lookup a with
 | some o =>
  have e:=KX a o hk;rw [ha] at e;cases e;refine core (λ_=>none) (λ_=>.inl rfl) (.inr ⟨_,vs.toArray,_,hk,rfl,rfl,rfl,by rw [bO,Nh];exact hl,by simpa using rv⟩) (λb u z=>by have z':(none:Option HO)=some u:=z;cases z') (λb z=>absurd rfl z) λz=>absurd rfl z
 | none =>
  refine core (λb=>if b=a then some (.kx { cls:=.type "list",data:=.seq vs.toArray } (.lst (ns.map V.int))) else none) (λb=>?_) (.inl (.inr ⟨{ cls:=.type "list",data:=.seq vs.toArray },ax rfl⟩)) (λb u z=>?_) (λb z=>?_) λ_=>hk
  .by_cases hb:b=a
   .exact .inr ⟨_,_,ax hb⟩
   exact .inl (aw hb)
  .by_cases hb:b=a
   .have z':=(ax hb).symm.trans z;cases z';subst hb;exact⟨ha,by rw [av];exact hl,vs,_,rv,ha⟩
   have z':=(aw hb).symm.trans z;cases z'
  by_cases hb:b=a
  .exact hb
  exact absurd (aw hb) z
abbrev KOf {K:a8}{h:Heap}(_:K.In h):a8:=K
def SR {l:PySem.W.OpenLaw}{n k:Nat}{q:Program}{loose:List Str}{XP:(Str->Option Value)->Heap->Prop}{YP:World->Heap->Prop}{d:DefRec}{K:Params->a8}{CX:World->zE}{sp:World->Sp}{x:Str}
  (hn:l.most=some n)(Hs:n<=sizeLine)(NO:d.params.defaults=[])(hr:fh k callerA)
  (hY:∀(w:World)(h:Heap),YP w h->(K w.params).In h)
  (F:∀(w:World)(mg:Str->Option Value)(fa:Addr)(h:Heap),(K w.params).In h->h.Ns mainGlobals mg->mg d.name=some (.ref fa) ->
   ∃fd:FuncData,(∀(s:Shared)(u:Value),BindsTo s fd ⟨[u],[]⟩ [(x,u)]) /\
    ∀base:Heap,(K w.params).In base->base.Ns mainGlobals mg->bR l.prog w (K w.params) mg base (CX w) k fa fd [x] (sp w))
  (zw:∀(w:World)(H:Hp)(a:Addr)(ns:List Int),ns.length<=n->OE H->aG (K w.params) H a (ns.map V.int)->sp w [.ref a] H (λv _=>v=.bl true) λ_ _ _=>False)
  (NX:∀(w:World)(H:Hp)(s:Shared)(e:Value)(s':Shared),CX w [] H s (λ_ _ _=>False) e s'->False) :
  PySem.W.WalkO q loose XP YP l.row.toRowW d [] (λf vs=>PySem.call f vs):=by
 refine Ji.qr hn NO λw s₀ s₁ mg mb fa o pm cd doc a vs ns G Y ho hd w6 NF Ho hints br hg=>?_;have KX:=hY w _ Y;obtain⟨fd,hb,hF⟩:=F w mg fa _ KX G.T.g NF;exact G_ KX G.T.g G.T.b G.T.builtins G.T.nolimit hg Ho hints (dI br Hs) hr hF hb (λH hO hS=>zw w H a ns br hO hS) λH e s'=>NX w H s₁ e s'
def dB (s:Stmt):Arguments:=match s with
 | .FunctionDef _ a _ _ _ _ _ _ _ _=>a
 | _=>{ posonlyargs:=[],args:=[],vararg:=none,kwonlyargs:=[],kw_defaults:=[],kwarg:=none,defaults:=[] }
def cw (s:Stmt):List Stmt:=match s with
 | .FunctionDef _ _ b _ _ _ _ _ _ _=>b
 | _=>[]
def ay (s:Stmt):Scope:=match s with
 | .FunctionDef _ _ _ _ _ _ sc _ _ _=>sc
 | _=>{ kind:=.function,names:=[],isGenerator:=false,isCoroutine:=false }
abbrev fY:zE:=λ_ _ _ _ _ _=>False
abbrev E0:XK:=λ_ _ _=>False
def uL {X:Cx}:Passes fY X E0:=λ_ _ _ _ _ _ _ h=>h.elim
structure iz (K:a8)(x qual:Str)(st:Stmt)(f:Addr)(fd:FuncData):Prop where
 ex:∃(oc:Value)(od:Option Addr)(kV doc pm:Value)(an:Option Addr)(eK ct:Value)(wJ:Array (Option Value)),
  fd=PySem.W.fnOf x qual (dB st) (cw st) (ay st) .none kV doc pm an eK ct/\K.lookup f=some ⟨oc,od,.func fd,wJ⟩/\PySem.W.codeIn K eK qual=true
 kp:PySem.W.keepIn K (.ref f)=true
section
variable {P:Program}{w:World}{K:a8}{mg:Str->Option Value}{base:Heap}
def iz.ok {x qual:Str}{st:Stmt}{f:Addr}{fd:FuncData}{N ps:List Str}{k:Nat}{sp:Sp}(F:iz K x qual st f fd)(S:aI N ps (ay st))(len:∀vs H Q E,sp vs H Q E->vs.length=ps.length)
  (jt:∀(eK:Value)(A:Around)(outer:List Env)(s:Shared)(H:Hp)(vs:List V)(Q:VK)(E:XK),fh k (A.deeper (envOfC qual (ay st) s.heap.objs.size f eK))->sp vs H Q E ->
   ∃t,Bm (pS fY P w K mg base N qual (ay st) f eK A outer s H E).Dx (cw st) t/\t { nx:=λ_ H'=>Q .eV H',rt:=Q } (start N vs) H):bR P w K mg base fY (k+1) f fd ps sp:=by
 obtain⟨oc,od,kV,doc,pm,an,eK,ct,wJ,rfl,lk,w6⟩:=F.ex;refine HP lk w6 S len λA outer s H vs Q E hr zw=>?_;obtain⟨t,h,q⟩:=jt eK A outer s H vs Q E hr zw;exact⟨t,h.Dx,q⟩
def iz.binds {x qual:Str}{st:Stmt}{f:Addr}{fd:FuncData}{ps:List Str}(F:iz K x qual st f fd)
  (h:∀(kV doc pm:Value)(an:Option Addr)(eK ct:Value)(us:List Value),us.length=ps.length->bindArgs (PySem.W.fnOf x qual (dB st) (cw st) (ay st) .none kV doc pm an eK ct) ⟨us,[]⟩=pure (ps.zip us)):Binds K fd ps []:=by
 obtain⟨oc,od,kV,doc,pm,an,eK,ct,wJ,rfl,lk,w6⟩:=F.ex;exact .all (h kV doc pm an eK ct)
def HK {x qual:Str}{st:Stmt}{f:Addr}{oc:Value}{od an:Option Addr}{wJ:Array (Option Value)}{kV doc pm eK ct:Value}(l:K.lookup f=some ⟨oc,od,.func (PySem.W.fnOf x qual (dB st) (cw st) (ay st) .none kV doc pm an eK ct),wJ⟩)
  (c:PySem.W.codeIn K eK qual=true)(k:PySem.W.keepIn K (.ref f)=true):iz K x qual st f (PySem.W.fnOf x qual (dB st) (cw st) (ay st) .none kV doc pm an eK ct):=⟨⟨oc,od,kV,doc,pm,an,eK,ct,wJ,rfl,l,c⟩,k⟩
end
def fX {A:Around}{k:Nat}(hr:fh k A):A.units+1 < cLine:=rC (Nat.add_le_add_left (by decide:1<=64) _) hr.units
section
variable {X:Cx}
def pv (i:Nat){x:Str}{pos:Pos}(hN:X.N[i]?=some x:=by rfl)(hv:Uy X.env.scope x:=by first | exact Or.inl rfl | exact Or.inr (bB rfl) | exact Or.inr (Or.inr rfl))(hd:(x == ("__debug__":Str))=false:=by decide)
  (w6:(x == ("__classdict__":Str))=false:=by decide):PE X (.Name x pos) (gE i):=MY hN hv hd w6
end
def du {A B:Prop}(h:B):if false=true then A else B:=by
 rw [aw c_];exact h
def g9 {A B:Prop}(h:A):if true=true then A else B:=by
 rw [ax rfl];exact h
def cE {c A B:Prop} [Decidable c] (h1:c->A)(h2:¬c->B):if c then A else B:=by
 by_cases h:c
 .rw [ax h];exact h1 h
 rw [aw h];exact h2 h
def aB (H H':Hp):Prop:=∀b o,H b=some o->H' b=some o
def aB.refl (H:Hp):aB H H:=λ_ _ h=>h
def aB.trans {H H1 H2:Hp}(a:aB H H1)(b:aB H1 H2):aB H H2:=λc o h=>b c o (a c o h)
def aB.free {H H':Hp}(e:aB H H'){l:Addr}(h:H' l=Option.none):H l=Option.none:=by
 cases q:H l with
 | none=>rfl
 | some o =>
  rw [e l o q] at h;cases h
def aB.seq {K:a8}{H H':Hp}{a:Addr}{xs:List V}(e:aB H H')(h:aG K H a xs):aG K H' a xs:=by
 rcases h with (h | ⟨o,h⟩) | h
 .exact .inl (.inl (e _ _ h))
 .exact .inl (.inr ⟨o,e _ _ h⟩)
 exact .inr h
end L2
namespace HD
open PySem PySem.W
def FV (st:SharedT->Thread->Option (SharedT×Thread))(ok:Thread->Bool):Nat->SharedT->Thread->Option SharedT
 | 0,_,_=>none
 | n+1,s,t=>match through t with
  | true=>some s
  | false=>match ok t with
   | false=>none
   | true=>match st s t with
    | some (s',t')=>FV st ok n s' t'
    | none=>none
theorem B7 {tb:String->Option Builtin}{p:Program}{w:World}{n₀:Nat}{ann:Option Value}:∀{n:Nat}{s s':SharedT}{t:Thread},FV (stepT (denote tb) p w) (stepOk n₀ ann) n s t=some s'->topRun tb p w n₀ ann n s.abs t=some s'.abs
 | 0,_,_,_,h=>by cases h
 | n+1,s,s',t,h=>by
  unfold FV at h;unfold topRun;cases he:through t with
  | true=>rw [he] at h;cases h;rfl
  | false =>
   rw [he] at h;cases hk:stepOk n₀ ann t with
   | false=>rw [hk] at h;cases h
   | true =>
    rw [hk] at h;cases hs:stepT (denote tb) p w s t with
    | none=>rw [hs] at h;cases h
    | some r=>obtain⟨s₂,t₂⟩:=r;rw [hs] at h;rw [stepT_spec hs];exact B7 h
def n6:List Obj->Nat->BT->BT
 | [],_,t=>t
 | o::r,i,t=>n6 r (i+1) (t.ins i o)
noncomputable def CB (P:Params):BT:=n6 (boot_heap P).objs.toList 0 .nil
def ED (P:Params):absHeap (CB P) 11 {}=boot_heap P:=by kernel_rfl
def N5 {β:Type}:Obj->(Obj->β)->β
 | ⟨c,d,t,s⟩,k=>k ⟨c,d,t,s⟩
def qQ {β:Type}:List Obj->(List Obj->β)->β
 | [],k=>k []
 | x::r,k=>N5 x λy=>qQ r λys=>k (y::ys)
theorem sX {β:Type}:∀(l:List Obj)(k:List Obj->β),qQ l k=k l
 | [],_=>rfl
 | ⟨c,d,t,s⟩::r,k=>by
  show qQ r (λys=>k (⟨c,d,t,s⟩::ys))=_;rw [sX r]
def G7 (p q:Program) (loose:List Str)(Xt:Shared->Bool){α:Type}(Yf:Shared->α)(g0:Bool)(h₀:Heap)(s:Shared) :=
 ((staticsOk (importedModules p.main.body) h₀ s.heap && namesBound p s.heap && gensDone s && laidKept h₀ s.heap),openSeen q loose (importedModules p.main.body) Xt g0 s,Yf s)
def Fx {β:Type}(f:Shared->β)(s:SharedT):β:=qQ (s.tree.list s.n) λl=>f ⟨⟨l.toArray,s.life⟩,s.gens,s.drawn,s.toks,s.os⟩
def Fw {β:Type}(f:Shared->β)(s:SharedT):Fx f s=f s.abs:=sX _ _
def QK {p q:Program}{loose:List Str}{Xt:Shared->Bool}{α:Type}{Yf:Shared->α}{Ya:World->α}{N:Nat}{g0:Bool}{ann:Option Value}{M:Nat}
  (Gk:∀w:World,(fencedOpening treeTable p w N).map (λs=>(s.heap,s.gens,s.drawn,s.toks))=some (boot_heap w.params,Array.mk [],boot_drawn,boot_toks))
  (size:∀w:World,((boot_heap w.params).isNs mainGlobals && (Array.mk []:Array GenState).size == 0,(boot_heap w.params).objs.size,(boot_heap w.params).nsMap mainGlobals "__annotations__")=(true,11,ann))
  (run:∀(w:World)(os:OsState),(FV (stepT (denote treeTable) p w) (stepOk 11 ann) M ⟨CB w.params,11,{},Array.mk [],boot_drawn,boot_toks,os⟩ (topStub p)).map (Fx (G7 p q loose Xt Yf g0 (boot_heap w.params)))=some (true,openGood q loose,Ya w))
  (le:Nat.ble M N=true):LeftO p q loose Xt Yf Ya N g0:=λw=>by
 obtain⟨⟨h,gs,d,k,os⟩,e,e'⟩:=cg.mp (Gk w);obtain⟨rfl,rfl,rfl,rfl⟩:h=boot_heap w.params/\gs=Array.mk []/\d=boot_drawn/\k=boot_toks:=by simpa using e'
 obtain⟨z1,z2,z3⟩:_/\_/\_:=by simpa only [q8] using size w
 obtain⟨s',r0,l0⟩:=cg.mp (run w os);rw [Fw] at l0;obtain⟨l1,l2,l3⟩:_/\_/\_:=by simpa only [G7,q8] using l0
 have r:=B7 r0;have ea:SharedT.abs ⟨CB w.params,11,{},Array.mk [],boot_drawn,boot_toks,os⟩=⟨boot_heap w.params,Array.mk [],boot_drawn,boot_toks,os⟩:=by
  unfold SharedT.abs;rw [ED]
 rw [ea] at r;have r:=topRun_mono (N - M) _ _ _ _ r;rw [show M+(N - M)=N by have:=Nat.le_of_ble_eq_true le;omega] at r;have t:topFrom treeTable p w N ⟨boot_heap w.params,Array.mk [],boot_drawn,boot_toks,os⟩=some s'.abs:=by
  unfold topFrom;dsimp only;rw [z1,z2,z3,r];show (match staticsOk (importedModules p.main.body) (boot_heap w.params) s'.abs.heap && namesBound p s'.abs.heap && gensDone s'.abs && laidKept (boot_heap w.params) s'.abs.heap with | true=>_ | false=>_)=_
  rw [l1]
 unfold openEnds;rw [e];show (topFrom treeTable p w N _).map _=_;rw [t];exact congrArg some (Prod.ext l2 l3)
end HD
set_option maxHeartbeats 0
namespace HD
open PySem PySem.W L2
def dE (P:Params)(x:Str)(t:Tok)(v:Value):DictEntry:=⟨PyData.keyHash P x,.str x t,v⟩
def top (p:Program) (i:Nat):Stmt:=p.main.body.getD i (.Pass ⟨0,0,0,0⟩)
def jn (p:Program) (i j:Nat):Stmt:=match top p i with
 | .ClassDef _ _ _ body _ _ _ _ _ _ _=>body.getD j (.Pass ⟨0,0,0,0⟩)
 | _=>.Pass ⟨0,0,0,0⟩
def posOf (s:Stmt):Pos:=match s with
 | .FunctionDef _ _ _ _ _ _ _ _ _ p=>p
 | _=>⟨0,0,0,0⟩
def cF (a:Addr)(n q:Str)(i:Nat)(l m:Int)(x y:Addr)(u v s t:Value)(z:Int)(w:Nat):Addr×Obj:=(a,⟨.type "code",none,.fields #[.str n i,.str q (i+1),.str "/claim/cut.py" (i+2),.int l 0,.int m 0,.int 0 0,.int 0 0,.int 3 0,.ref x,.bool true,.int 181 0,.ref y,u,v,s,t,.int z 0,.int l 0,.str "/claim/cut.py" w],#[]⟩)
def fF (a:Addr)(n q:Str)(s:Stmt)(m:Value):Addr×Obj:=(a,⟨.type "function",none,.func (fnOf n q (dB s) (cw s) (ay s) .none .none .none m none (.ref (a-1)) .none),#[]⟩)
def dR (P:Params)(x:Str)(t:Tok)(a:Addr):DictEntry:=dE P x t (.ref a)
def m0:Value:=.str "__main__" 164
def m1:Value:=.str "wright.rules" 194
def m2:Value:=.str "wright.deed_trees" 234
def m3:Value:=.str "wright.begin_tables" 283
def m4:Value:=.str "wright.errors" 377
def m5:Value:=.str "wright.loops" 538
def m6:Value:=.str "wright.tree_sizes" 568
def m7:Value:=.str "wright.grammar_faults" 589
def m8:Value:=.str "wright.least_trees" 616
def m9:Value:=.str "wright.grammars" 702
def mY:Value:=.str "law_wright_k67_trees_of_deeds" 745
noncomputable def K' (p:Program)(P:Params):Frag:=[
 (2,⟨.none,none,.dict #[] 0,#[]⟩),
 (3,⟨.type "dict",none,.dict #[dE P "__name__" 165 (.str "law_wright_k67_trees_of_deeds" 745),dE P "__doc__" 166 (.none),dE P "__package__" 167 (.none),dE P "__loader__" 168 (.builtin "__main__.__loader__#opaque"),dE P "__spec__" 169 (.none),dR P "__annotations__" 170 6,dR P "__builtins__" 171 4,dE P "__file__" 173 (.str "/claim/cut.py" 172),dE P "__cached__" 174 (.none),dR P "_wall" 193 21,dR P "heads_of" 201 26,dR P "words_in" 207 31,dR P "numbers_by_name" 213 36,dR P "standings_by_part" 225 43,dR P "is_number_below" 233 50,dR P "tree_of" 241 55,dR P "do_deed" 251 62,dR P "do_step" 260 69,dR P "do_make" 272 76,dR P "is_child" 282 83,dR P "found_empties" 290 88,dR P "first_places" 301 95,dR P "BeginTable" 376 145,dR P "WrightError" 396 159,dR P "NoRules" 412 172,dR P "Twice" 437 191,dR P "Endless" 462 210,dR P "Unmet" 487 229,dR P "Loop" 512 248,dR P "Vast" 537 267,dR P "find_loop" 545 274,dR P "steps_with_like_rows" 551 279,dR P "way_back" 567 286,dR P "least_sizes" 575 291,dR P "greatest_empty_sizes" 582 298,dR P "settled_sizes" 588 303,dE P "MOST_RULES" 592 (.int (60) 591),dR P "refuse_faults" 598 308,dR P "refuse_twice" 609 315,dR P "names_met" 615 320,dR P "least_by_part" 623 325,dR P "rule_size" 629 330,dR P "empty_by_name" 635 335,dR P "LeastTrees" 701 378,dR P "Grammar" 744 407,dR P "_law_cell_at" 754 418,dR P "_law_names" 760 423,dR P "_law_words" 767 430,dR P "_law_digits" 779 437,dR P "_law_skeleton" 793 444,dR P "_law_more" 808 451,dR P "_law_ended" 814 456,dR P "_law_good" 820 461,dR P "_law_grammar" 834 468,dR P "_law_least" 840 473,dR P "_law_tree" 855 480,dR P "_law_deeds" 864 487,dR P "_law_drawn_tree" 870 492,dR P "_law_is" 876 497,dR P "law" 882 502] 60,#[]⟩),
 (cF 20 "_wall" "_wall" 187 1 1 15 16 .none (.ref 17) (.ref 18) (.ref 19) 191 192),
 (fF 21 "_wall" "_wall" (top p 0) m0),
 (cF 25 "heads_of" "heads_of" 196 5 1 22 23 .none .none .none (.ref 24) 199 200),
 (fF 26 "heads_of" "heads_of" (top p 2) m1),
 (cF 30 "words_in" "words_in" 202 7 1 27 28 .none .none .none (.ref 29) 205 206),
 (fF 31 "words_in" "words_in" (top p 3) m1),
 (cF 35 "numbers_by_name" "numbers_by_name" 208 15 1 32 33 .none .none .none (.ref 34) 211 212),
 (fF 36 "numbers_by_name" "numbers_by_name" (top p 4) m1),
 (cF 42 "standings_by_part" "standings_by_part" 214 20 1 37 38 .none (.ref 39) (.ref 40) (.ref 41) 223 224),
 (fF 43 "standings_by_part" "standings_by_part" (top p 5) m1),
 (cF 49 "is_number_below" "is_number_below" 226 26 2 44 45 .none (.ref 46) (.ref 47) (.ref 48) 231 232),
 (fF 50 "is_number_below" "is_number_below" (top p 6) m1),
 (cF 54 "tree_of" "tree_of" 236 29 2 51 52 .none .none .none (.ref 53) 239 240),
 (fF 55 "tree_of" "tree_of" (top p 8) m2),
 (cF 61 "do_deed" "do_deed" 242 38 4 56 57 .none (.ref 58) (.ref 59) (.ref 60) 249 250),
 (fF 62 "do_deed" "do_deed" (top p 9) m2),
 (cF 68 "do_step" "do_step" 252 44 3 63 64 .none (.ref 65) (.ref 66) (.ref 67) 258 259),
 (fF 69 "do_step" "do_step" (top p 10) m2),
 (cF 75 "do_make" "do_make" 261 49 4 70 71 .none (.ref 72) (.ref 73) (.ref 74) 270 271),
 (fF 76 "do_make" "do_make" (top p 11) m2),
 (cF 82 "is_child" "is_child" 273 59 4 77 78 .none (.ref 79) (.ref 80) (.ref 81) 280 281),
 (fF 83 "is_child" "is_child" (top p 12) m2),
 (cF 87 "found_empties" "found_empties" 285 64 1 84 85 .none .none .none (.ref 86) 288 289),
 (fF 88 "found_empties" "found_empties" (top p 14) m3),
 (cF 94 "first_places" "first_places" 291 75 2 89 90 .none (.ref 91) (.ref 92) (.ref 93) 299 300),
 (fF 95 "first_places" "first_places" (top p 15) m3),
 (cF 106 "__init__" "BeginTable.__init__" 314 84 2 103 104 .none .none .none (.ref 105) 317 318),
 (fF 107 "__init__" "BeginTable.__init__" (jn p 16 0) m3),
 (cF 113 "find_begins" "BeginTable.find_begins" 320 95 3 108 109 .none (.ref 110) (.ref 111) (.ref 112) 329 330),
 (fF 114 "find_begins" "BeginTable.find_begins" (jn p 16 1) m3),
 (cF 120 "words_of_part" "BeginTable.words_of_part" 332 103 2 115 116 .none (.ref 117) (.ref 118) (.ref 119) 337 338),
 (fF 121 "words_of_part" "BeginTable.words_of_part" (jn p 16 2) m3),
 (cF 127 "first_words" "BeginTable.first_words" 340 106 2 122 123 .none (.ref 124) (.ref 125) (.ref 126) 345 346),
 (fF 128 "first_words" "BeginTable.first_words" (jn p 16 3) m3),
 (cF 134 "all_empty" "BeginTable.all_empty" 348 109 2 129 130 .none (.ref 131) (.ref 132) (.ref 133) 353 354),
 (fF 135 "all_empty" "BeginTable.all_empty" (jn p 16 4) m3),
 (cF 141 "words_of_parts" "BeginTable.words_of_parts" 356 112 3 136 137 .none (.ref 138) (.ref 139) (.ref 140) 362 363),
 (fF 142 "words_of_parts" "BeginTable.words_of_parts" (jn p 16 5) m3),
 (144,⟨.type "dict",none,.dict #[dE P "__module__" 309 (.str "wright.begin_tables" 283),dE P "__firstlineno__" 313 (.int (82) 312),dR P "__init__" 319 107,dR P "find_begins" 331 114,dR P "words_of_part" 339 121,dR P "first_words" 347 128,dR P "all_empty" 355 135,dR P "words_of_parts" 364 142,dR P "__static_attributes__" 369 143,dR P "__dict__" 371 146,dR P "__weakref__" 373 147,dE P "__doc__" 374 (.none)] 4,#[]⟩),
 (145,⟨.type "type",none,.cls ⟨"BeginTable",[.type "object"],[.ref 145,.type "object"],144,"BeginTable",true,[],[],false,none,false⟩,#[none,none,some (.str "BeginTable" 302),some (.str "BeginTable" 310),some (.builtin "object.__new__"),some (.bool true)]⟩),
 (146,⟨.type "getset_descriptor",none,.fields #[.str "__dict__" 370,.ref 145,.builtin "function.__dict__",.builtin "function.__dict__#set"],#[]⟩),
 (147,⟨.type "getset_descriptor",none,.fields #[.str "__weakref__" 372,.ref 145,.builtin "ExceptionGroup.__weakref__",.none],#[]⟩),
 (158,⟨.type "dict",none,.dict #[dE P "__module__" 386 (.str "wright.errors" 377),dE P "__firstlineno__" 390 (.int (115) 389),dR P "__static_attributes__" 391 157,dR P "__weakref__" 393 160,dE P "__doc__" 394 (.none)] 3,#[]⟩),
 (159,⟨.type "type",none,.cls ⟨"WrightError",[.type "ValueError"],[.ref 159,.type "ValueError",.type "Exception",.type "BaseException",.type "object"],158,"WrightError",true,[],[.ref 172,.ref 191,.ref 210,.ref 229,.ref 248,.ref 267],false,none,false⟩,#[some (.ref 150),none,some (.str "WrightError" 379),some (.str "WrightError" 387),some (.builtin "ValueError.__new__"),some (.bool true)]⟩),
 (160,⟨.type "getset_descriptor",none,.fields #[.str "__weakref__" 392,.ref 159,.builtin "ExceptionGroup.__weakref__",.none],#[]⟩),
 (171,⟨.type "dict",none,.dict #[dE P "__module__" 404 (.str "wright.errors" 377),dE P "__firstlineno__" 408 (.int (117) 407),dR P "__static_attributes__" 409 170,dE P "__doc__" 410 (.none)] 2,#[]⟩),
 (172,⟨.type "type",none,.cls ⟨"NoRules",[.ref 159],[.ref 172,.ref 159,.type "ValueError",.type "Exception",.type "BaseException",.type "object"],171,"NoRules",true,[],[],false,none,false⟩,#[some (.ref 163),none,some (.str "NoRules" 397),some (.str "NoRules" 405),some (.builtin "ValueError.__new__"),some (.bool true)]⟩),
 (cF 187 "__init__" "Twice.__init__" 425 121 2 182 183 .none (.ref 184) (.ref 185) (.ref 186) 430 431),
 (fF 188 "__init__" "Twice.__init__" (jn p 20 0) m4),
 (190,⟨.type "dict",none,.dict #[dE P "__module__" 420 (.str "wright.errors" 377),dE P "__firstlineno__" 424 (.int (119) 423),dR P "__init__" 432 188,dR P "__static_attributes__" 434 189,dE P "__doc__" 435 (.none)] 2,#[]⟩),
 (191,⟨.type "type",none,.cls ⟨"Twice",[.ref 159],[.ref 191,.ref 159,.type "ValueError",.type "Exception",.type "BaseException",.type "object"],190,"Twice",true,[],[],false,none,false⟩,#[some (.ref 175),none,some (.str "Twice" 413),some (.str "Twice" 421),some (.builtin "ValueError.__new__"),some (.bool true)]⟩),
 (cF 206 "__init__" "Endless.__init__" 450 126 2 201 202 .none (.ref 203) (.ref 204) (.ref 205) 455 456),
 (fF 207 "__init__" "Endless.__init__" (jn p 21 0) m4),
 (209,⟨.type "dict",none,.dict #[dE P "__module__" 445 (.str "wright.errors" 377),dE P "__firstlineno__" 449 (.int (124) 448),dR P "__init__" 457 207,dR P "__static_attributes__" 459 208,dE P "__doc__" 460 (.none)] 2,#[]⟩),
 (210,⟨.type "type",none,.cls ⟨"Endless",[.ref 159],[.ref 210,.ref 159,.type "ValueError",.type "Exception",.type "BaseException",.type "object"],209,"Endless",true,[],[],false,none,false⟩,#[some (.ref 194),none,some (.str "Endless" 438),some (.str "Endless" 446),some (.builtin "ValueError.__new__"),some (.bool true)]⟩),
 (cF 225 "__init__" "Unmet.__init__" 475 131 2 220 221 .none (.ref 222) (.ref 223) (.ref 224) 480 481),
 (fF 226 "__init__" "Unmet.__init__" (jn p 22 0) m4),
 (228,⟨.type "dict",none,.dict #[dE P "__module__" 470 (.str "wright.errors" 377),dE P "__firstlineno__" 474 (.int (129) 473),dR P "__init__" 482 226,dR P "__static_attributes__" 484 227,dE P "__doc__" 485 (.none)] 2,#[]⟩),
 (229,⟨.type "type",none,.cls ⟨"Unmet",[.ref 159],[.ref 229,.ref 159,.type "ValueError",.type "Exception",.type "BaseException",.type "object"],228,"Unmet",true,[],[],false,none,false⟩,#[some (.ref 213),none,some (.str "Unmet" 463),some (.str "Unmet" 471),some (.builtin "ValueError.__new__"),some (.bool true)]⟩),
 (cF 244 "__init__" "Loop.__init__" 500 136 2 239 240 .none (.ref 241) (.ref 242) (.ref 243) 505 506),
 (fF 245 "__init__" "Loop.__init__" (jn p 23 0) m4),
 (247,⟨.type "dict",none,.dict #[dE P "__module__" 495 (.str "wright.errors" 377),dE P "__firstlineno__" 499 (.int (134) 498),dR P "__init__" 507 245,dR P "__static_attributes__" 509 246,dE P "__doc__" 510 (.none)] 2,#[]⟩),
 (248,⟨.type "type",none,.cls ⟨"Loop",[.ref 159],[.ref 248,.ref 159,.type "ValueError",.type "Exception",.type "BaseException",.type "object"],247,"Loop",true,[],[],false,none,false⟩,#[some (.ref 232),none,some (.str "Loop" 488),some (.str "Loop" 496),some (.builtin "ValueError.__new__"),some (.bool true)]⟩),
 (cF 263 "__init__" "Vast.__init__" 525 141 2 258 259 .none (.ref 260) (.ref 261) (.ref 262) 530 531),
 (fF 264 "__init__" "Vast.__init__" (jn p 24 0) m4),
 (266,⟨.type "dict",none,.dict #[dE P "__module__" 520 (.str "wright.errors" 377),dE P "__firstlineno__" 524 (.int (139) 523),dR P "__init__" 532 264,dR P "__static_attributes__" 534 265,dE P "__doc__" 535 (.none)] 2,#[]⟩),
 (267,⟨.type "type",none,.cls ⟨"Vast",[.ref 159],[.ref 267,.ref 159,.type "ValueError",.type "Exception",.type "BaseException",.type "object"],266,"Vast",true,[],[],false,none,false⟩,#[some (.ref 251),none,some (.str "Vast" 513),some (.str "Vast" 521),some (.builtin "ValueError.__new__"),some (.bool true)]⟩),
 (cF 273 "find_loop" "find_loop" 540 145 1 270 271 .none .none .none (.ref 272) 543 544),
 (fF 274 "find_loop" "find_loop" (top p 26) m5),
 (cF 278 "steps_with_like_rows" "steps_with_like_rows" 546 149 1 275 276 .none .none .none (.ref 277) 549 550),
 (fF 279 "steps_with_like_rows" "steps_with_like_rows" (top p 27) m5),
 (cF 285 "way_back" "way_back" 552 158 3 280 281 .none (.ref 282) (.ref 283) (.ref 284) 565 566),
 (fF 286 "way_back" "way_back" (top p 28) m5),
 (cF 290 "least_sizes" "least_sizes" 570 174 1 287 288 .none .none .none (.ref 289) 573 574),
 (fF 291 "least_sizes" "least_sizes" (top p 30) m6),
 (cF 297 "greatest_empty_sizes" "greatest_empty_sizes" 576 176 1 292 293 .none (.ref 294) (.ref 295) (.ref 296) 580 581),
 (fF 298 "greatest_empty_sizes" "greatest_empty_sizes" (top p 31) m6),
 (cF 302 "settled_sizes" "settled_sizes" 583 178 3 299 300 .none .none .none (.ref 301) 586 587),
 (fF 303 "settled_sizes" "settled_sizes" (top p 32) m6),
 (cF 307 "refuse_faults" "refuse_faults" 593 191 2 304 305 .none .none .none (.ref 306) 596 597),
 (fF 308 "refuse_faults" "refuse_faults" (top p 35) m7),
 (cF 314 "refuse_twice" "refuse_twice" 599 210 1 309 310 .none (.ref 311) (.ref 312) (.ref 313) 607 608),
 (fF 315 "refuse_twice" "refuse_twice" (top p 36) m7),
 (cF 319 "names_met" "names_met" 610 217 1 316 317 .none .none .none (.ref 318) 613 614),
 (fF 320 "names_met" "names_met" (top p 37) m7),
 (cF 324 "least_by_part" "least_by_part" 618 227 1 321 322 .none .none .none (.ref 323) 621 622),
 (fF 325 "least_by_part" "least_by_part" (top p 39) m8),
 (cF 329 "rule_size" "rule_size" 624 235 2 326 327 .none .none .none (.ref 328) 627 628),
 (fF 330 "rule_size" "rule_size" (top p 40) m8),
 (cF 334 "empty_by_name" "empty_by_name" 630 237 2 331 332 .none .none .none (.ref 333) 633 634),
 (fF 335 "empty_by_name" "empty_by_name" (top p 41) m8),
 (cF 346 "__init__" "LeastTrees.__init__" 648 244 3 343 344 .none .none .none (.ref 345) 651 652),
 (fF 347 "__init__" "LeastTrees.__init__" (jn p 42 0) m8),
 (cF 353 "least_of" "LeastTrees.least_of" 654 251 2 348 349 .none (.ref 350) (.ref 351) (.ref 352) 659 660),
 (fF 354 "least_of" "LeastTrees.least_of" (jn p 42 1) m8),
 (cF 360 "hollow_of" "LeastTrees.hollow_of" 662 254 2 355 356 .none (.ref 357) (.ref 358) (.ref 359) 667 668),
 (fF 361 "hollow_of" "LeastTrees.hollow_of" (jn p 42 2) m8),
 (cF 367 "begun_place" "LeastTrees.begun_place" 670 257 3 362 363 .none (.ref 364) (.ref 365) (.ref 366) 676 677),
 (fF 368 "begun_place" "LeastTrees.begun_place" (jn p 42 3) m8),
 (cF 374 "begun_of" "LeastTrees.begun_of" 679 260 4 369 370 .none (.ref 371) (.ref 372) (.ref 373) 686 687),
 (fF 375 "begun_of" "LeastTrees.begun_of" (jn p 42 4) m8),
 (377,⟨.type "dict",none,.dict #[dE P "__module__" 643 (.str "wright.least_trees" 616),dE P "__firstlineno__" 647 (.int (242) 646),dR P "__init__" 653 347,dR P "least_of" 661 354,dR P "hollow_of" 669 361,dR P "begun_place" 678 368,dR P "begun_of" 688 375,dR P "__static_attributes__" 694 376,dR P "__dict__" 696 379,dR P "__weakref__" 698 380,dE P "__doc__" 699 (.none)] 4,#[]⟩),
 (378,⟨.type "type",none,.cls ⟨"LeastTrees",[.type "object"],[.ref 378,.type "object"],377,"LeastTrees",true,[],[],false,none,false⟩,#[none,none,some (.str "LeastTrees" 636),some (.str "LeastTrees" 644),some (.builtin "object.__new__"),some (.bool true)]⟩),
 (379,⟨.type "getset_descriptor",none,.fields #[.str "__dict__" 695,.ref 378,.builtin "function.__dict__",.builtin "function.__dict__#set"],#[]⟩),
 (380,⟨.type "getset_descriptor",none,.fields #[.str "__weakref__" 697,.ref 378,.builtin "ExceptionGroup.__weakref__",.none],#[]⟩),
 (390,⟨.type "tuple",none,.seq #[.none] 0,#[]⟩),
 (cF 396 "__init__" "Grammar.__init__" 716 265 3 391 392 .none (.ref 393) (.ref 394) (.ref 395) 722 723),
 (397,⟨.type "function",none,.func (fnOf "__init__" "Grammar.__init__" (dB (jn p 44 0)) (cw (jn p 44 0)) (ay (jn p 44 0)) (.ref 390) (.none) (.none) (.str "wright.grammars" 702) (none) (.ref 396) (.none)),#[]⟩),
 (cF 403 "start" "Grammar.start" 725 273 1 398 399 .none (.ref 400) (.ref 401) (.ref 402) 729 730),
 (fF 404 "start" "Grammar.start" (jn p 44 1) m9),
 (406,⟨.type "dict",none,.dict #[dE P "__module__" 711 (.str "wright.grammars" 702),dE P "__firstlineno__" 715 (.int (263) 714),dR P "__init__" 724 397,dR P "start" 731 404,dR P "__static_attributes__" 737 405,dR P "__dict__" 739 408,dR P "__weakref__" 741 409,dE P "__doc__" 742 (.none)] 4,#[]⟩),
 (407,⟨.type "type",none,.cls ⟨"Grammar",[.type "object"],[.ref 407,.type "object"],406,"Grammar",true,[],[],false,none,false⟩,#[none,none,some (.str "Grammar" 704),some (.str "Grammar" 712),some (.builtin "object.__new__"),some (.bool true)]⟩),
 (408,⟨.type "getset_descriptor",none,.fields #[.str "__dict__" 738,.ref 407,.builtin "function.__dict__",.builtin "function.__dict__#set"],#[]⟩),
 (409,⟨.type "getset_descriptor",none,.fields #[.str "__weakref__" 740,.ref 407,.builtin "ExceptionGroup.__weakref__",.none],#[]⟩),
 (cF 417 "_law_cell_at" "_law_cell_at" 747 276 2 412 413 .none (.ref 414) (.ref 415) (.ref 416) 752 753),
 (fF 418 "_law_cell_at" "_law_cell_at" (top p 46) mY),
 (cF 422 "_law_names" "_law_names" 755 280 1 419 420 .none .none .none (.ref 421) 758 759),
 (fF 423 "_law_names" "_law_names" (top p 47) mY),
 (cF 429 "_law_words" "_law_words" 761 283 1 424 425 .none (.ref 426) (.ref 427) (.ref 428) 765 766),
 (fF 430 "_law_words" "_law_words" (top p 48) mY),
 (cF 436 "_law_digits" "_law_digits" 768 285 3 431 432 .none (.ref 433) (.ref 434) (.ref 435) 777 778),
 (fF 437 "_law_digits" "_law_digits" (top p 49) mY),
 (cF 443 "_law_skeleton" "_law_skeleton" 780 296 4 438 439 .none (.ref 440) (.ref 441) (.ref 442) 791 792),
 (fF 444 "_law_skeleton" "_law_skeleton" (top p 50) mY),
 (cF 450 "_law_more" "_law_more" 794 307 5 445 446 .none (.ref 447) (.ref 448) (.ref 449) 806 807),
 (fF 451 "_law_more" "_law_more" (top p 51) mY),
 (cF 455 "_law_ended" "_law_ended" 809 314 2 452 453 .none .none .none (.ref 454) 812 813),
 (fF 456 "_law_ended" "_law_ended" (top p 52) mY),
 (cF 460 "_law_good" "_law_good" 815 323 1 457 458 .none .none .none (.ref 459) 818 819),
 (fF 461 "_law_good" "_law_good" (top p 53) mY),
 (cF 467 "_law_grammar" "_law_grammar" 821 345 2 462 463 .none (.ref 464) (.ref 465) (.ref 466) 832 833),
 (fF 468 "_law_grammar" "_law_grammar" (top p 54) mY),
 (cF 472 "_law_least" "_law_least" 835 358 1 469 470 .none .none .none (.ref 471) 838 839),
 (fF 473 "_law_least" "_law_least" (top p 55) mY),
 (cF 479 "_law_tree" "_law_tree" 841 367 5 474 475 .none (.ref 476) (.ref 477) (.ref 478) 853 854),
 (fF 480 "_law_tree" "_law_tree" (top p 56) mY),
 (cF 486 "_law_deeds" "_law_deeds" 856 381 1 481 482 .none (.ref 483) (.ref 484) (.ref 485) 862 863),
 (fF 487 "_law_deeds" "_law_deeds" (top p 57) mY),
 (cF 491 "_law_drawn_tree" "_law_drawn_tree" 865 388 3 488 489 .none .none .none (.ref 490) 868 869),
 (fF 492 "_law_drawn_tree" "_law_drawn_tree" (top p 58) mY),
 (cF 496 "_law_is" "_law_is" 871 394 2 493 494 .none .none .none (.ref 495) 874 875),
 (fF 497 "_law_is" "_law_is" (top p 59) mY),
 (cF 501 "law" "law" 877 402 1 498 499 .none .none .none (.ref 500) 880 881),
 (fF 502 "law" "law" (top p 60) mY)]
def as:List Addr:=[2,3,20,21,25,26,30,31,35,36,42,43,49,50,54,55,61,62,68,69,75,76,82,83,87,88,94,95,106,107,113,114,120,121,127,128,134,135,141,142,144,145,146,147,158,159,160,171,172,187,188,190,191,206,207,209,210,225,226,228,229,244,245,247,248,263,264,266,267,273,274,278,279,285,286,290,291,297,298,302,303,307,308,314,315,319,320,324,325,329,330,334,335,346,347,353,354,360,361,367,368,374,375,377,378,379,380,390,396,397,403,404,406,407,408,409,417,418,422,423,429,430,436,437,443,444,450,451,455,456,460,461,467,468,472,473,479,480,486,487,491,492,496,497,501,502]
def q' (p:Program):Program:=view p [0,2,3,4,5,6,8,9,10,11,12,14,15,16,18,19,20,21,22,23,24,26,27,28,30,31,32,34,35,36,37,39,40,41,42,44,46,47,48,49,50,51,52,53,54,55,56,57,58,59,60]
abbrev loose:List Str:=[]
abbrev steps:Nat:=3915
abbrev bound:Nat:=8810
abbrev DE:OpenLaw:=PySem.Challenge.rw_wright_k67_trees_of_deeds
noncomputable abbrev K (P:Params):Frag:=K' PySem.Challenge.pw_wright_k67_trees_of_deeds P
theorem Sr (P:Params):as=(K P).map (·.1):=by kernel_rfl
noncomputable abbrev hook:Hook:=kmHook K as Sr [322,293,288]
def pre (h:DE.row.wellSaid=true->DE.row.Holds):DE.Holds:=by
 o_law
 exact h (by assumption)
abbrev Xt:Shared->Bool:=λs=>xlAt (q' PySem.Challenge.pw_wright_k67_trees_of_deeds) [] s && recOk (RowW.records (OpenRow.toRowW (OpenLaw.row PySem.Challenge.rw_wright_k67_trees_of_deeds))) s
def run (w:World)(os:OsState):(FV (stepT (denote treeTable) PySem.Challenge.pw_wright_k67_trees_of_deeds w) (stepOk 11 (some (.ref 6))) steps ⟨CB w.params,11,{},Array.mk [],boot_drawn,boot_toks,os⟩ (topStub PySem.Challenge.pw_wright_k67_trees_of_deeds)).map
  (Fx (G7 PySem.Challenge.pw_wright_k67_trees_of_deeds (q' PySem.Challenge.pw_wright_k67_trees_of_deeds) loose Xt (Hook.obs hook) true (boot_heap w.params)))=some (true,openGood (q' PySem.Challenge.pw_wright_k67_trees_of_deeds) loose,Hook.val hook w):=by
 rw [PySem.W.Fast.te10156331382660048174,PySem.W.Fast.te11892475500146522536,PySem.W.Fast.te14364793385576792824,PySem.W.Fast.te6613529449190102663,PySem.W.Fast.te736401713553295146]
 kernel_rfl
theorem size (w:World):((boot_heap w.params).isNs mainGlobals && (Array.mk []:Array GenState).size == 0,(boot_heap w.params).objs.size,(boot_heap w.params).nsMap mainGlobals "__annotations__")=(true,11,some (.ref 6)):=by kernel_rfl
def Gk:∀w:World,(fencedOpening treeTable PySem.Challenge.pw_wright_k67_trees_of_deeds w bound).map (λs=>(s.heap,s.gens,s.drawn,s.toks))=some (boot_heap w.params,Array.mk [],boot_drawn,boot_toks) :=
 boot_open (nofun) nofun (λs=>by kernel_rfl)
def left:LeftO (OpenRow.toRowW DE.row).prog (q' PySem.Challenge.pw_wright_k67_trees_of_deeds) loose Xt (Hook.obs hook) (Hook.val hook) bound:=QK Gk size run nofun
def lh:DefRec:={ name := "law",params:=dB (top PySem.Challenge.pw_wright_k67_trees_of_deeds 60),body:=cw (top PySem.Challenge.pw_wright_k67_trees_of_deeds 60),scope:=ay (top PySem.Challenge.pw_wright_k67_trees_of_deeds 60),pos:=posOf (top PySem.Challenge.pw_wright_k67_trees_of_deeds 60) }
def ok1:defOf (q' PySem.Challenge.pw_wright_k67_trees_of_deeds) DE.row.name=some (lh,[]):=by kernel_rfl
def ok2:DE.row.prog.theDef DE.row.name=some (lh.params,lh.body,lh.scope):=by kernel_rfl
def ok3:kwWritten? lh.params.kwonlyargs lh.params.kw_defaults=some []:=by kernel_rfl
def ok4:(chainsOk (q' PySem.Challenge.pw_wright_k67_trees_of_deeds) && opensWell DE.row.prog && (frees DE.row.toRowW && DE.row.within.isEmpty))=true:=by kernel_rfl
def ok5:lh.params.defaults=[]:=by kernel_rfl
def hold (h:WalkO (q' PySem.Challenge.pw_wright_k67_trees_of_deeds) loose (XL (q' PySem.Challenge.pw_wright_k67_trees_of_deeds) []) (Hook.says hook) DE.row.toRowW lh [] λf vs=>PySem.call f vs)(hw:DE.row.toRowW.promised):DE.Holds :=
 pre λVf=>holds_open (q:=q' PySem.Challenge.pw_wright_k67_trees_of_deeds) (loose:=loose) (Xt:=Xt) (XP:=XL (q' PySem.Challenge.pw_wright_k67_trees_of_deeds) []) (Yf:=Hook.obs hook) (Ya:=Hook.val hook) (YP:=Hook.says hook) (N:=bound) left (Hook.of hook) (Hook.keeps hook) (λs e=>xl_of s (fk.mp e).1) XL.keeps ok1 ok2 ok3 (λs e=>recFacts_of (fk.mp e).2) rfl Vf ok4 ⟨rfl,rfl,rfl,rfl,rfl,nofun⟩ hw h
end HD
set_option maxHeartbeats 4000000
namespace L2
open PySem PySem.Spec PyProof.Rows
abbrev pU:=Nat->St->Hp->Prop
def Bd {CX:zE}{P:Program}{w:World}{K:a8}{mg:Str->Option Value}{base:Heap}{N:List Str}{qual:Str}{scope:Scope}{f:Addr}{cd:Value}{A:Around}{outer:List Env}{s:Shared}{H:Hp}{E:XK}:(pS CX P w K mg base N qual scope f cd A outer s H E).Dx.K=K:=rfl
def V8 {t:TS}{D:Ends}{σ:St}{H:Hp}(h:let E:=D;t E σ H):t D σ H:=h
def V6 {t u:TS}{D:Ends}{σ:St}{H:Hp}(h:let E:={ D with nx:=u D };t E σ H):Mn t u D σ H:=h
def QJ {t u:TS}{D:Ends}{σ:St}{H:Hp}(h:let E:=D;let F:={ E with nx:=u E };t F σ H):Mn t u D σ H:=h
def V7 {g:TG}{x:V}{σ:St}{H:Hp}{t:TS}{D:Ends}(h:let E:=D;g x σ H λσ2 H2=>t E σ2 H2):g x σ H λσ2 H2=>t D σ2 H2:=h
end L2
local macro_rules | `(tactic| nofun) => `(tactic| (dsimp only [L2.Bd];refine L2.V6 ?_;intro _))
local macro_rules | `(tactic| ac_rfl) => `(tactic| (refine L2.QJ ?_;intro _ _))
local macro_rules | `(tactic| ac_nf0) => `(tactic| (refine L2.V7 ?_;intro _))
local macro_rules | `(tactic| ac_nf) => `(tactic| (refine L2.V8 ?_;intro _))
set_option maxHeartbeats 0
namespace L2
open PySem PySem.Spec PyProof.Rows
section
variable {κ:Type} [DecidableEq κ]
def bf (kvs:List (κ×V))(k:κ):Option V:=(kvs.find? λkv=>decide (kv.1=k)).map (·.2)
def bL (kvs:List (κ×V))(k:κ)(v:V):List (κ×V) :=
 if (kvs.any λkv=>decide (kv.1=k))=true then kvs.map (λkv=>if kv.1=k then (kv.1,v) else kv) else kvs++[(k,v)]
def LP (kvs:List (κ×V))(k:κ):List (κ×V):=kvs.filter λkv=>decide (kv.1≠k)
def eQ {p:κ×V}{r:List (κ×V)}{k:κ}(e:p.1=k):bf (p::r) k=some p.2:=by simp [bf,oW,e]
def eU {p:κ×V}{r:List (κ×V)}{k:κ}(e:¬p.1=k):bf (p::r) k=bf r k:=by simp [bf,oW,e]
theorem ji (k:κ):∀kvs:List (κ×V),(kvs.any λkv=>decide (kv.1=k))=(bf kvs k).isSome
 | []=>rfl
 | p::r=>by
  rw [qZ];by_cases e:p.1=k
  .simp only [eQ e,bN e,Bool.true_or,Option.isSome_some]
  rw [eU e,cV e,Bool.false_or];exact ji k r
theorem xG (k j:κ)(y:V):∀kvs:List (κ×V),bf (kvs.map λkv=>if kv.1=k then (kv.1,y) else kv) j=(bf kvs j).map λx=>if j=k then y else x
 | []=>rfl
 | p::r=>by
  have ih:=xG k j y r;rw [cO];by_cases h:p.1=k
  .rw [ax h];by_cases e:p.1=j
   .rw [eQ (p:=(p.1,y)) e,eQ e,rm,ax (e.symm.trans h)]
   rw [eU (p:=(p.1,y)) e,eU e,ih]
  rw [aw h];by_cases e:p.1=j
  .rw [eQ (p:=p) e,eQ e,rm,aw (λz=>h (e.trans z))]
  rw [eU (p:=p) e,eU e,ih]
theorem uz (k j:κ)(y:V):∀kvs:List (κ×V),bf kvs k=none->bf (kvs++[(k,y)]) j=if j=k then some y else bf kvs j
 | [],_=>by
  by_cases e:k=j
  .rw [ax e.symm];exact eQ (p:=(k,y)) e
  rw [aw (λz=>e z.symm)];exact eU (p:=(k,y)) e
 | p::r,hn=>by
  rw [List.cons_append];have hk:¬p.1=k:=λz=>by rw [eQ z] at hn;cases hn
  rw [eU hk] at hn;have ih:=uz k j y r hn;by_cases e:p.1=j
  .rw [eQ e,eQ e,aw (λz=>hk (e.trans z))]
  rw [eU e,eU e,ih]
def rN (kvs:List (κ×V))(k j:κ)(y:V):bf (bL kvs k y) j=if j=k then some y else bf kvs j:=by
 unfold bL;by_cases a:(kvs.any λkv=>decide (kv.1=k))=true
 .rw [ax a,xG];rw [ji] at a;by_cases e:j=k
  .obtain⟨x,hx⟩:=lX.mp a;rw [ax e,e,hx,rm,ax rfl]
  rw [aw e];cases bf kvs j with
  | none=>rfl
  | some x=>rw [rm,aw e]
 rw [aw a];refine uz k j y kvs ?_;rw [ji] at a;cases q:bf kvs k with
 | none=>rfl
 | some x=>rw [q] at a;exact(a rfl).elim
def fM (kvs:List (κ×V))(k:κ)(v:V):(bL kvs k v).length<=kvs.length+1:=by
 unfold bL
 split
 .rw [av];omega
 rw [bp,dS,iX];omega
def ya {kvs:List (κ×V)}{k:κ}(v:V)(h:bf kvs k=none):bL kvs k v=kvs++[(k,v)]:=by
 unfold bL;rw [ji,h];exact aw nofun
def jW.jo {o:Option V}{u:Option Value}(r:jW o u):o.isSome=u.isSome:=by
 cases o with
 | none=>cases u with
  | none=>rfl
  | some _=>exact(show False from r).elim
 | some _=>cases u with
  | none=>exact(show False from r).elim
  | some _=>rfl
theorem jW.getD {o:Option V}{u:Option Value}{d:V}{d':Value}(r:jW o u)(rd:RelV d d'):RelV (o.getD d) (u.getD d'):=by
 cases o with
 | none=>cases u with
  | none=>exact rd
  | some _=>exact(show False from r).elim
 | some _=>cases u with
  | none=>exact(show False from r).elim
  | some _=>exact r
def KV.val {kvs:List (κ×V)}{vs:List (κ×Value)}(r:KV kvs vs)(k:κ):jW (bf kvs k) (valueAt vs k):=by
 unfold KV at r
 induction r with
 | nil=>exact True.intro
 | @cons p q ps qs h t ih =>
  obtain⟨h1,h2⟩:=h;by_cases e:p.1=k
  .have e':q.1=k:=h1.symm.trans e;have b:valueAt (q::qs) k=some q.2:=by simp [valueAt,oW,e']
   rw [eQ e,b];exact h2
  have e':¬q.1=k:=λz=>e (h1.trans z);have b:valueAt (q::qs) k=valueAt qs k:=by simp [valueAt,oW,e']
  rw [eU e,b];exact ih
theorem KV.any {kvs:List (κ×V)}{vs:List (κ×Value)}(r:KV kvs vs)(k:κ):(kvs.any λkv=>decide (kv.1=k))=vs.any λkv=>decide (kv.1=k):=by
 unfold KV at r
 induction r with
 | nil=>rfl
 | cons h t ih=>rw [qZ,qZ,ih,h.1]
def KV.MS {kvs:List (κ×V)}{vs:List (κ×Value)}(r:KV kvs vs)(k:κ){y:V}{u:Value}(ry:RelV y u) :
  KV (kvs.map λkv=>if kv.1=k then (kv.1,y) else kv) (vs.map λkv=>if kv.1=k then (kv.1,u) else kv):=by
 unfold KV at r ⊢
 induction r with
 | nil=>exact .nil
 | @cons p q ps qs h t ih =>
  rw [cO,cO];refine .cons ?_ ih;obtain⟨h1,h2⟩:=h;by_cases e:p.1=k
  .rw [ax e,ax (h1.symm.trans e)];exact⟨h1,ry⟩
  rw [aw e,aw (λz=>e (h1.trans z))];exact⟨h1,h2⟩
def KV.put {kvs:List (κ×V)}{vs:List (κ×Value)}(r:KV kvs vs)(k:κ){y:V}{u:Value}(ry:RelV y u):KV (bL kvs k y) (stored vs k u):=by
 unfold bL stored;rw [r.any k];by_cases e:(vs.any λkv=>decide (kv.1=k))=true
 .rw [ax e,ax e];exact r.MS k ry
 rw [aw e,aw e];exact gX r ⟨rfl,ry⟩
def KV.drop {kvs:List (κ×V)}{vs:List (κ×Value)}(r:KV kvs vs)(k:κ):KV (LP kvs k) (without vs k):=by
 unfold KV at r ⊢;unfold LP without
 induction r with
 | nil=>exact .nil
 | @cons p q ps qs h t ih =>
  obtain⟨h1,h2⟩:=h;rw [vv,vv];by_cases e:p.1=k
  .have a:¬decide (p.1≠k)=true:=by simp [e]
   have b:¬decide (q.1≠k)=true:=by simp [h1.symm.trans e]
   rw [aw a,aw b];exact ih
  have e':¬q.1=k:=λz=>e (h1.trans z);have a:decide (p.1≠k)=true:=by simp [e]
  have b:decide (q.1≠k)=true:=by simp [e']
  rw [ax a,ax b];exact .cons ⟨h1,h2⟩ ih
def KV.keys {kvs:List (κ×V)}{vs:List (κ×Value)}(r:KV kvs vs):kvs.map (·.1)=vs.map (·.1):=by
 unfold KV at r
 induction r with
 | nil=>rfl
 | cons h t ih=>rw [cO,cO,ih,h.1]
theorem KV.length {kvs:List (κ×V)}{vs:List (κ×Value)}(r:KV kvs vs):kvs.length=vs.length:=a_ r
end
def l_ {P:Program}{w:World}{k:aL}{u:Value}(r:RelV (kV k) u):(bh P w).is k u=true:=by
 cases k with
 | inl i=>obtain⟨t,e⟩:=(show ∃t,u=Value.int i t from r);subst e;exact yt P w i t
 | inr x=>obtain⟨t,e⟩:=(show ∃t,u=Value.str x t from r);subst e;exact yr P w x t
theorem uR {P:Program}{w:World}:∀{ks:List aL}{us:List Value},aY (ks.map kV) us->ItemsAre (bh P w) ks us
 | [],_,r=>by rw [mn] at r;cases r;exact .nil
 | k::ks,_,r=>by
  rw [cO] at r;cases r with
  | cons h t=>exact .cons (l_ h) (uR t)
abbrev KT (H:Hp):List (List aL×V)->List (List aL×Addr×Value)->Prop:=Paired λp q=>p.1=q.1/\H q.2.1=some (.tup (p.1.map kV))/\RelV p.2 q.2.2
def KT.val {H:Hp}{kvs:List (List aL×V)}{xs:List (List aL×Addr×Value)}(r:KT H kvs xs)(k:List aL):jW (bf kvs k) ((atKey xs k).map (·.2)):=by
 induction r with
 | nil=>exact True.intro
 | @cons p q ps qs h t ih =>
  obtain⟨h1,_,h2⟩:=h;by_cases e:p.1=k
  .have e':q.1=k:=h1.symm.trans e;have b:atKey (q::qs) k=some q.2:=by simp [atKey,oW,e']
   rw [eQ e,b];exact h2
  have e':¬q.1=k:=λz=>e (h1.trans z);have b:atKey (q::qs) k=atKey qs k:=by simp [atKey,oW,e']
  rw [eU e,b];exact ih
def KT.MS {H:Hp}{kvs:List (List aL×V)}{xs:List (List aL×Addr×Value)}(r:KT H kvs xs)(k:List aL){y:V}{u:Value}(ry:RelV y u) :
  KT H (kvs.map λkv=>if kv.1=k then (kv.1,y) else kv) (xs.map (putAt k u)):=by
 induction r with
 | nil=>exact .nil
 | @cons p q ps qs h t ih =>
  rw [cO,cO];refine .cons ?_ ih;obtain⟨h1,h2,h3⟩:=h;unfold putAt;by_cases e:p.1=k
  .rw [ax e,ax (h1.symm.trans e)];exact⟨h1,h2,ry⟩
  rw [aw e,aw (λz=>e (h1.trans z))];exact⟨h1,h2,h3⟩
def KT.put {H:Hp}{kvs:List (List aL×V)}{xs:List (List aL×Addr×Value)}(r:KT H kvs xs)(k:List aL){b:Addr}{y:V}{u:Value}(hb:H b=some (.tup (k.map kV)))(ry:RelV y u) :
  KT H (bL kvs k y) (storedH xs k b u):=by
 have e:(kvs.any λkv=>decide (kv.1=k))=(atKey xs k).isSome:=by
  rw [ji,(r.val k).jo,o8]
 unfold bL storedH;rw [e];by_cases q:(atKey xs k).isSome=true
 .rw [ax q,ax q];exact r.MS k ry
 rw [aw q,aw q];exact gX r ⟨rfl,hb,ry⟩
def KT.keeps {H H':Hp}{kvs:List (List aL×V)}{xs:List (List aL×Addr×Value)}(r:KT H kvs xs)(ht:∀b ys,H b=some (.tup ys)->H' b=some (.tup ys)):KT H' kvs xs :=
 Paired.eJ r λ_ _ z=>⟨z.1,ht _ _ z.2.1,z.2.2⟩
section
variable {P:Program}{w:World}{H:Hp}{h:Heap}{a:Addr}
def K9 {u:HO}(ok:mj P w H h)(e:Rd H a u):cM P w H h a u:=e.ok ok
def oE {kvs:List (aL×V)}(ok:mj P w H h)(e:Rd H a (.dK kvs)):kvs.length<=sizeLine/\(a == sysModules)=false/\∃vs,KV kvs vs/\h.DictOf (bh P w) a vs :=
 show cM P w H h a (.dK kvs) from K9 ok e
def yL {kvs:List (aL×V)}(ok:mj P w H h)(e:H a=some (.dK kvs)):kvs.length<=sizeLine/\(a == sysModules)=false/\∃vs,KV kvs vs/\h.DictOf (bh P w) a vs:=oE ok (.inl e)
def mQ {ks:List aL}(ok:mj P w H h)(e:H a=some (.tup (ks.map kV))):(tupleKind (bh P w)).is h ks a:=by
 obtain⟨_,aN,r,o,h1,h2,n,h3⟩:=(show cM P w H h a (.tup (ks.map kV)) from ok a _ e);exact⟨o,aN.toArray,n,h1,h2,h3,by simpa using uR r⟩
def tG {kvs:List (List aL×V)}(ok:mj P w H h)(e:Rd H a (.dT kvs)):kvs.length<=sizeLine/\(a == sysModules)=false /\
  ∃xs,KT H kvs xs/\h.DictOfH (tupleKind (bh P w)) a xs:=by
 obtain⟨z,y,xs,r,o,es,ep,h1,h2,h3,h4,h5⟩:=(show cM P w H h a (.dT kvs) from K9 ok e);refine⟨z,y,xs,r,o,es,ep,h1,h2,h3,h4,λx hx=>?_,h5⟩;have all:∀{l:List (List aL×V)}{m:List (List aL×Addr×Value)},KT H l m->∀x∈m,(tupleKind (bh P w)).is h x.1 x.2.1:=by
  intro l m q
  induction q with
  | nil=>intro x hx;exact nomatch hx
  | @cons p q ps qs hq t ih =>
   intro x hx;rcases bY.mp hx with e | hx
   .subst e;exact mQ ok (by rw [<-hq.1];exact hq.2.1)
   exact ih x hx
 exact all r x hx
def Sg {kvs:List (List aL×V)}(ok:mj P w H h)(e:H a=some (.dT kvs)):kvs.length<=sizeLine/\(a == sysModules)=false /\
  ∃xs,KT H kvs xs/\h.DictOfH (tupleKind (bh P w)) a xs:=tG ok (.inl e)
end
def bX (H:Hp)(a:Addr)(y:V)(r:Option V):Prop :=
 (∃kvs k,Rd H a (.dK kvs)/\y=kV k/\r=bf kvs k)\/∃kvs k b,Rd H a (.dT kvs)/\y=.ref b/\H b=some (.tup (k.map kV))/\r=bf kvs k
def pX (H:Hp)(a:Addr)(y v:V)(H':Hp):Prop :=
 (∃kvs k,H a=some (.dK kvs)/\y=kV k/\kvs.length < sizeLine/\H'=upd H a (.dK (bL kvs k v))) \/
 ∃kvs k b,H a=some (.dT kvs)/\y=.ref b/\H b=some (.tup (k.map kV))/\kvs.length < sizeLine/\H'=upd H a (.dT (bL kvs k v))
theorem bX.k {H:Hp}{a:Addr}{kvs:List (aL×V)}{k:aL}(e:H a=some (.dK kvs)):bX H a (kV k) (bf kvs k):=.inl ⟨kvs,k,.inl e,rfl,rfl⟩
def bX.t {H:Hp}{a b:Addr}{kvs:List (List aL×V)}{k:List aL}(e:H a=some (.dT kvs))(eb:H b=some (.tup (k.map kV))):bX H a (.ref b) (bf kvs k):=.inr ⟨kvs,k,b,.inl e,rfl,eb,rfl⟩
theorem pX.k {H:Hp}{a:Addr}{kvs:List (aL×V)}{k:aL}{v:V}(e:H a=some (.dK kvs))(hl:kvs.length < sizeLine):pX H a (kV k) v (upd H a (.dK (bL kvs k v))):=.inl ⟨kvs,k,e,rfl,hl,rfl⟩
def pX.t {H:Hp}{a b:Addr}{kvs:List (List aL×V)}{k:List aL}{v:V}(e:H a=some (.dT kvs))(eb:H b=some (.tup (k.map kV)))(hl:kvs.length < sizeLine) :
  pX H a (.ref b) v (upd H a (.dT (bL kvs k v))):=.inr ⟨kvs,k,b,e,rfl,eb,hl,rfl⟩
section
variable {X:Cx}{ag:List (Addr×Obj)}{σ:St}{H:Hp}{s:Shared}{a:Addr}{y v:V}{u r:Value}{o:Option V}{A:Around}{E:Value->Shared->Prop}
def Inv.big (I:Inv X ag σ H s):sysModules < s.heap.objs.size:=by
 have h:mainGlobals < s.heap.objs.size:=(I.mod.glob.keeps I.bk).lt;exact jB nofun h
def Er {Q:Value->Shared->Prop}(hu:A.units+1 < cLine)(I:Inv X ag σ H s)(g:bX H a y (some v))(ry:RelV y u)(h:∀w' s',Inv X ag σ H s'->RelV v w'->Q w' s') :
  wpAny (model X.prog X.w) A (getItem (.ref a) u) Q E s:=by
 rcases g with ⟨kvs,k,e,ey,l⟩ | ⟨kvs,k,b,e,ey,eb,l⟩
 .subst ey;obtain⟨z,hd,vs,rel,dd⟩:=oE I.bZ e;obtain⟨w',hw,Ae⟩:=jW.some_of (v:=v) (o:=valueAt vs k) (by rw [l];exact rel.val k);exact wpAny_getItem_of (l_ ry) dd.mapOf hw (h w' _ (I.tok _) Ae)
 subst ey;cases (show u=Value.ref b from ry);obtain⟨z,hd,xs,rel,dd⟩:=tG I.bZ e;obtain⟨w',hw,Ae⟩:=jW.some_of (v:=v) (o:=(atKey xs k).map (·.2)) (by rw [l];exact rel.val k);obtain⟨p,hp,oM⟩:=cg.mp hw;refine wpAny_getItem_heap (o7 hu) (mQ I.bZ eb) dd hp ?_;rw [oM];exact h w' _ (I.tok _) Ae
def X6 {Q:Value->Shared->Prop}(hu:A.units+1 < cLine)(I:Inv X ag σ H s)(g:bX H a y o)(ry:RelV y u)(h:∀s',Inv X ag σ H s'->Q (.bool o.isSome) s') :
  wpAny (model X.prog X.w) A (compareOp .In u (.ref a)) Q E s:=by
 rcases g with ⟨kvs,k,e,ey,l⟩ | ⟨kvs,k,b,e,ey,eb,l⟩
 .subst ey;obtain⟨z,hd,vs,rel,dd⟩:=oE I.bZ e;refine wpAny_in_of (l_ ry) hd dd.mapOf ?_;rw [<-(rel.val k).jo,<-l];exact h _ (I.tok _)
 subst ey;cases (show u=Value.ref b from ry);obtain⟨z,hd,xs,rel,dd⟩:=tG I.bZ e;refine wpAny_in_heap (o7 hu) (mQ I.bZ eb) hd dd ?_;have q:=(rel.val k).jo;rw [o8] at q;rw [<-q,<-l];exact h _ (I.tok _)
def Kz {Q:Value->Shared->Prop}(hu:A.units+1 < cLine)(I:Inv X ag σ H s)(g:bX H a y o)(ry:RelV y u)(h:∀s',Inv X ag σ H s'->Q (.bool (!o.isSome)) s') :
  wpAny (model X.prog X.w) A (compareOp .NotIn u (.ref a)) Q E s:=by
 rcases g with ⟨kvs,k,e,ey,l⟩ | ⟨kvs,k,b,e,ey,eb,l⟩
 .subst ey;obtain⟨z,hd,vs,rel,dd⟩:=oE I.bZ e;refine wpAny_notIn_of (l_ ry) hd dd.mapOf ?_;rw [<-(rel.val k).jo,<-l];exact h _ (I.tok _)
 subst ey;cases (show u=Value.ref b from ry);obtain⟨z,hd,xs,rel,dd⟩:=tG I.bZ e;refine wpAny_notIn_heap (o7 hu) (mQ I.bZ eb) hd dd ?_;have q:=(rel.val k).jo;rw [o8] at q;rw [<-q,<-l];exact h _ (I.tok _)
def qR {h':Heap}{t':Nat}{ob:HO}(I:Inv X ag σ H s)(mu:SD (H a))(hs:Heap.SameBut a s.heap h')(he:∃q,h'.get? a=some q)(new:cM X.prog X.w (upd H a ob) h' a ob) :
  Inv X ag σ (upd H a ob) { s with heap:=h',toks:=t' } :=
 I.write (x:=a) (e:=a) mu (.inl rfl) (λb q hb z=>(hs.2 b hb).trans z) he new
def tH {P:Program}{w:World}{H':Hp}{h':Heap}{kvs:List (aL×V)}{vs:List (aL×Value)}(z:kvs.length<=sizeLine)(hd:(a == sysModules)=false)(rel:KV kvs vs)(dd:h'.DictOf (bh P w) a vs) :
  cM P w H' h' a (.dK kvs):=⟨z,hd,vs,rel,dd⟩
def Ep {H':Hp}{Q:Unit->Shared->Prop}(hu:A.units+1 < cLine)(I:Inv X ag σ H s)(g:pX H a y v H')(ry:RelV y u)(rv:RelV v r)(h:∀s',Inv X ag σ H' s'->Q () s') :
  wpAny (model X.prog X.w) A (setItem (.ref a) u r) Q E s:=by
 rcases g with ⟨kvs,k,e,ey,l,eH⟩ | ⟨kvs,k,b,e,ey,eb,l,eH⟩
 .subst ey eH;obtain⟨z,hd,vs,rel,dd⟩:=yL I.bZ e;have hz:vs.length<=sizeLine:=by rw [<-rel.length];exact z
  have hl:(bL kvs k v).length<=sizeLine:=by have:=fM kvs k v;omega
  refine wpAny_setItem_pairs (hsz:=hz) (l_ ry) dd λh' Jc hs=>h _ ?_;have he:∃q,h'.get? a=some q:=let ⟨q,_,_,hq,_⟩:=Jc;⟨q,hq⟩;exact qR I (by rw [e];exact True.intro) hs he (tH hl hd (rel.put k rv) Jc)
 subst ey eH;cases (show u=Value.ref b from ry);obtain⟨z,hd,xs,rel,dd⟩:=Sg I.bZ e;have hz:xs.length<=sizeLine:=by rw [<-a_ rel];exact z
 have hl:(bL kvs k v).length<=sizeLine:=by have:=fM kvs k v;omega
 refine wpAny_setItem_heap (hsz:=hz) (o7 hu) (mQ I.bZ eb) dd λh' Jc hs=>h _ ?_;obtain⟨q,es,ep,hq,h2,h3,h4,_,h5⟩:=Jc;refine qR I (by rw [e];exact True.intro) hs ⟨q,hq⟩ ⟨hl,hd,_,(rel.put k eb rv).keeps λc ys ec=>?_,q,es,ep,hq,h2,h3,h4,h5⟩;rw [ai (Qz ec e (λz=>nomatch z))];exact ec
end
section
variable {X:Cx}{ag:List (Addr×Obj)}{σ:St}{H:Hp}{s:Shared}{a:Addr}{kvs:List (aL×V)}{k:aL}{u:Value}{A:Around}{E:Value->Shared->Prop}
def Sj {Q:Value->Shared->Prop}(I:Inv X ag σ H s)(e:Rd H a (.dK kvs))(h:∀t s',Inv X ag σ H s'->Q (.int kvs.length t) s'):wpAny (model X.prog X.w) A (call (.builtin "len") [.ref a]) Q E s:=by
 obtain⟨z,hd,vs,rel,dd⟩:=oE I.bZ e;refine call_len_dict hd dd (by rw [<-rel.length];rw [sizeLine_eq] at z;omega) ?_;rw [<-rel.length];exact h _ _ (I.tok _)
end
def SA (i:Expr):Prop:=∀ov iv,subscripted i false ov iv=operate [ov,iv] (getItem ov iv)
def BG {prog:Program}{w:World}{A:Around}{E:Value->Shared->Prop}{s:Shared}{env:Env}{value slice:Expr}{pos:Pos}{T id:String}{Q:Value->Shared->Prop}
  (hl:typeLookup (.type T) "__getitem__"=pure (some (.builtin id)))(hs:SA slice)
  (h:wpAny (model prog w) A (eval value env) (λo s₁=>wpAny (model prog w) A (eval slice env) (λi s₂=>s₂.TypeIs o T/\wpAny (model prog w) A (getItem o i) Q E s₂) E s₁) E s) :
  wpAny (model prog w) A (eval (.Subscript value slice pos) env) Q E s:=by
 refine Subscript_ (dC h (λo s₁ h₁=>dC h₁ (λi s₂ h₂=>?_) λ_ _ x=>x) λ_ _ x=>x);obtain⟨hT,h₂⟩:=h₂;unfold subscriptTail;refine aq ?_;rw [getitemInPython_of_ne hT.not_modules];refine aq (wpAny_specialOf hT hl ?_);have fin:wpAny (model prog w) A (subscripted slice false o i) (λr s₃=>wpAny (model prog w) A (letTemporaryGo value o r >>= λ_=>pure r) Q E s₃) E s₂:=by
  rw [hs o i];exact wpAny_operating (dC h₂ (λr s₃ h₃=>aq (wpAny_letTemporaryGo (aH h₃))) λ_ _ x=>x)
 first
  | exact aH (aq fin)
  | exact aq (aH (aq fin))
  | exact aq fin
def yN {X:Cx}{ag:List (Addr×Obj)}{σ:St}{H:Hp}{s:Shared}{a:Addr}{y:V}{o:Option V}(I:Inv X ag σ H s)(g:bX H a y o):s.TypeIs (.ref a) "dict" := by
 rcases g with ⟨kvs,k,e,_,_⟩ | ⟨kvs,k,b,e,_,_,_⟩
 .obtain⟨_,_,vs,_,dd⟩:=oE I.bZ e;exact dd.typeIs
 obtain⟨_,_,xs,_,dd⟩:=tG I.bZ e;exact dd.typeIs
inductive XDg (x:V)(S:Addr->V->Prop)(R:V->Prop):Prop
 | mk (a:Addr)(v:V)(e:x=.ref a)(s:S a v)(q:R v):XDg x S R
inductive YA (x:V)(S:Addr->Option V->Prop)(R:Option V->Prop):Prop
 | mk (a:Addr)(o:Option V)(e:x=.ref a)(s:S a o)(q:R o):YA x S R
def Bz (td ty:TE):TE:=λσ H Q=>td σ H λx H1=>ty σ H1 λy H2=>XDg x (λa v=>bX H2 a y (some v)) λv=>Q v H2
def P1 (ty td:TE):TE:=λσ H Q=>ty σ H λy H1=>td σ H1 λx H2=>YA x (λa o=>bX H2 a y o) λo=>Q (.bl o.isSome) H2
def By (ty td:TE):TE:=λσ H Q=>ty σ H λy H1=>td σ H1 λx H2=>YA x (λa o=>bX H2 a y o) λo=>Q (.bl (!o.isSome)) H2
def Qb (td ty tv:TE):TS:=λD σ H=>tv σ H λv H1=>td σ H1 λx H2=>ty σ H2 λy H3=>∃a H4,x=.ref a/\pX H3 a y v H4/\D.nx σ H4
section
variable {X:Cx}{o i e value:Expr}{pos pos' vT:Pos}{td ty tv:TE}
def eI (hu:X.A.units+1 < cLine)(ho:PE X o td)(hi:PE X i ty)(hs:SA i):PE X (.Subscript o i pos) (Bz td ty):=by
 intro ag s σ H Q I h;refine BG PySem.F.slot_dict_getitem.lookup hs (cX (ho ag s σ H _ I h) λu s1 bx=>?_);obtain⟨x,H1,I1,rx,q1⟩:=bx;refine cX (hi ag s1 σ H1 _ I1 q1) λiv s2 bx=>?_;obtain⟨y,H2,I2,ry,a,v,ex,g,q2⟩:=bx;subst ex;obtain rfl:u=Value.ref a:=rx;exact⟨yN I2 g,Er hu I2 g ry λw' s3 I3 Ae=>⟨v,H2,I3,Ae,q2⟩⟩
def jc (hu:X.A.units+1 < cLine)(hi:PE X i ty)(ho:PE X o td):PC X .In i o (P1 ty td):=by
 intro ag s σ H Q I h;refine cX (hi ag s σ H _ I h) λiv s1 bx=>?_;obtain⟨y,H1,I1,ry,q1⟩:=bx;refine cX (ho ag s1 σ H1 _ I1 q1) λu s2 bx=>?_;obtain⟨x,H2,I2,rx,a,ov,ex,g,q2⟩:=bx;subst ex;obtain rfl:u=Value.ref a:=rx;exact X6 hu I2 g ry λs3 I3=>⟨.bl ov.isSome,H2,I3,rfl,q2⟩
def dX (hu:X.A.units+1 < cLine)(hi:PE X i ty)(ho:PE X o td):PC X .NotIn i o (By ty td):=by
 intro ag s σ H Q I h;refine cX (hi ag s σ H _ I h) λiv s1 bx=>?_;obtain⟨y,H1,I1,ry,q1⟩:=bx;refine cX (ho ag s1 σ H1 _ I1 q1) λu s2 bx=>?_;obtain⟨x,H2,I2,rx,a,ov,ex,g,q2⟩:=bx;subst ex;obtain rfl:u=Value.ref a:=rx;exact Kz hu I2 g ry λs3 I3=>⟨.bl (!ov.isSome),H2,I3,rfl,q2⟩
def iC (hu:X.A.units+1 < cLine)(ho:PE X o td)(hi:PE X i ty)(hv:PE X value tv)(hs:swapsWith value (some (.Subscript o i pos')) pos.line X.env=pure false) :
  PS X (.Assign [.Subscript o i pos'] value pos) (Qb td ty tv):=by
 intro ag s σ H D I h;refine wpAny_Assign_Subscript (cX (hv ag s σ H _ I h) λr s1 bx=>?_) hs;obtain⟨v,H1,I1,rv,q1⟩:=bx;refine cX (ho ag s1 σ H1 _ I1 q1) λu s2 bx=>?_;obtain⟨x,H2,I2,rx,q2⟩:=bx;refine cX (hi ag s2 σ H2 _ I2 q2) λiv s3 bx=>?_;obtain⟨y,H3,I3,ry,a,H4,ex,g,q3⟩:=bx;subst ex;obtain rfl:u=Value.ref a:=rx;exact Ep hu I3 g ry rv λs4 I4=>⟨σ,H4,I4,q3⟩
end
def yM {P:Program}{w:World}{H:Hp}(h:Heap)(hb:sysModules < h.objs.size):cM P w H (h.push { cls:=.type "dict",data:=.dict #[] }) h.objs.size (.dK []) :=
 ⟨fj _,kN.mpr (fq (bE hb)),[],.nil,Heap.DictOf.new h⟩
def Fh:TE:=λ_ H Q=>∀p,H p=none->Q (.ref p) (upd H p (.dK []))
section
variable {X:Cx}{pos:Pos}
def gQ:PE X (.Dict [] [] pos) Fh:=λag s σ H Q I h =>
 wpAny_Dict_empty ⟨.ref s.heap.objs.size,_,I.laid (a:=s.heap.objs.size) (o:=.dK []) (t':=s.toks) (λ_ _ q=>bH _ q) (aD _) (yM s.heap I.big),rfl,h _ (I.bZ.fresh (aD _))⟩
end
def zO:List (TE×TE)->St->Hp->(List (V×V)->Hp->Prop)->Prop
 | [],_,H,Q=>Q [] H
 | (tk,tv)::r,σ,H,Q=>tk σ H λx H1=>tv σ H1 λy H2=>zO r σ H2 λps H3=>Q ((x,y)::ps) H3
abbrev VV:List (V×V)->List (Value×Value)->Prop:=Paired λp q=>RelV p.1 q.1/\RelV p.2 q.2
def UA (X:Cx)(pos:Pos)(keys:List (Option Expr))(values:List Expr)(Jp:List (TE×TE)):Prop :=
 ∀(ag:List (Addr×Obj))(s:Shared)(σ:St)(H:Hp)(Q:List (V×V)->Hp->Prop),Inv X ag σ H s->zO Jp σ H Q ->
  wpAny (model X.prog X.w) X.A (evalPairs (pairTrees keys values X.env pos)) (λvs s'=>∃ps H',Inv X ag σ H' s'/\VV ps vs/\Q ps H') X.xe s
def JD {X:Cx}{pos:Pos}:UA X pos [] [] []:=λag s σ H Q I h=>pairTrees_nil_walk ⟨[],H,I,.nil,h⟩
def F8 {X:Cx}{pos:Pos}{k v:Expr}{ks:List (Option Expr)}{vs:List Expr}{tk tv:TE}{Jp:List (TE×TE)}(hk:PE X k tk)(hv:PE X v tv)(hr:UA X pos ks vs Jp) :
  UA X pos (some k::ks) (v::vs) ((tk,tv)::Jp):=λag s σ H Q I h =>
 pairTrees_cons_walk (cX (hk ag s σ H _ I h) λu s1 ⟨x,H1,I1,rx,q1⟩=>cX (hv ag s1 σ H1 _ I1 q1) λw2 s2 ⟨y,H2,I2,ry,q2⟩ =>
  cX (hr ag s2 σ H2 _ I2 q2) λws s3 ⟨ps,H3,I3,rel,q3⟩=>⟨(x,y)::ps,H3,I3,.cons ⟨rx,ry⟩ rel,q3⟩)
def mK (kvs more:List (aL×V)):List (aL×V):=more.foldl (λbI kv=>bL bI kv.1 kv.2) kvs
def KV.merge:∀{more:List (aL×V)}{rs:List (aL×Value)}{kvs:List (aL×V)}{vs:List (aL×Value)},KV more rs->KV kvs vs->KV (mK kvs more) (merged vs rs):=by
 intro more rs kvs vs r;unfold KV at r
 induction r generalizing kvs vs with
 | nil=>intro q;exact q
 | @cons p q ps qs h t ih =>
  intro r0;have e:KV (bL kvs p.1 p.2) (stored vs q.1 q.2):=by
   have:=r0.put p.1 h.2;rw [<-h.1];exact this
  exact ih e
theorem l8:∀(more kvs:List (aL×V)),(mK kvs more).length<=kvs.length+more.length
 | [],kvs=>by show kvs.length<=kvs.length+0;omega
 | p::r,kvs=>by
  have h1:=l8 r (bL kvs p.1 p.2);have h2:=fM kvs p.1 p.2;show (mK (bL kvs p.1 p.2) r).length<=_;rw [dS];omega
theorem tQ {P:Program}{w:World}:∀{kvs:List (aL×V)}{ws:List (Value×Value)},VV (kvs.map λkv=>(kV kv.1,kv.2)) ws->∃rs,Carries (bh P w) ws rs/\KV kvs rs
 | [],_,r=>by rw [mn] at r;cases r;exact⟨[],True.intro,.nil⟩
 | p::kvs,_,r=>by
  rw [cO] at r;cases r with
  | @cons a b as bs h t =>
   obtain⟨rs,c,q⟩:=tQ (P:=P) (w:=w) t;obtain⟨b1,b2⟩:=b;exact⟨(p.1,b2)::rs,⟨l_ h.1,rfl,c⟩,.cons ⟨rfl,h.2⟩ q⟩
def PZ (Jp:List (TE×TE)):TE:=λσ H Q=>∀p,H p=none->zO Jp σ (upd H p (.dK [])) λps H2=>H2 p=some (.dK [])/\∃kvs:List (aL×V),ps=kvs.map (λkv=>(kV kv.1,kv.2))/\kvs.length<=15/\Q (.ref p) (upd H2 p (.dK (mK [] kvs)))
def JJ {X:Cx}{pos:Pos}{keys:List (Option Expr)}{values:List Expr}{Jp:List (TE×TE)}(h:UA X pos keys values Jp)(qC:keys.all (·.isSome)=true)(hl:keys.length=values.length)(h0:keys≠[])
  (Xu:keys.length<=15):PE X (.Dict keys values pos) (PZ Jp):=by
 intro ag s σ H Q I q;have hn:=I.bZ.fresh (aD s.heap.objs.size);have I1:=I.laid (a:=s.heap.objs.size) (o:=.dK []) (h':=s.heap.push { cls:=.type "dict",data:=.dict #[] }) (t':=s.toks) (λ_ _ q=>bH _ q) (aD _) (yM s.heap I.big);refine wpAny_Dict_walk (knd:=bh X.prog X.w) qC hl h0 Xu (cX (h ag _ σ _ _ I1 (q _ hn)) λws s2 bx=>?_);obtain⟨ps,H2,I2,rel,e,kvs,ep,lk,q2⟩:=bx;subst ep;obtain⟨rs,c,rk⟩:=tQ (P:=X.prog) (w:=X.w) rel;obtain⟨z,hd,vs0,r0,dd⟩:=yL I2.bZ e;cases r0;refine⟨rs,c,dd,λh' Jc hs=>⟨.ref s.heap.objs.size,_,?_,rfl,q2⟩⟩;have hz:(mK [] kvs).length<=sizeLine:=by
  have h1:=l8 kvs [];rw [iX] at h1;rw [sizeLine_eq];omega
 have he:∃q,h'.get? s.heap.objs.size=some q:=let ⟨q,_,_,hq,_⟩:=Jc;⟨q,hq⟩;exact qR I2 (by rw [e];exact True.intro) hs he (tH hz hd (rk.merge .nil) Jc)
structure M1 (X:Cx)(o:Expr)(m:Str)(apos:Pos)(e:Expr)(gU:Pos):Prop where
 base:attributeBase o m X.env (eval o X.env)=eval o X.env
 A4:((backTo gU (starEach [e] X.env)).all (λx=>!x.1) && (backToKw gU (keywordEach [] X.env)).all (λx=>x.1.isSome)
  && decide (([e]:List Expr).length+([]:List Keyword).length+(if ([]:List Keyword).isEmpty then 0 else 1) < 30))=true
 line:(apos.endLine == gU.line)=true
 trees:backTo gU (starEach [e] X.env)=[(false,eval e X.env)]
structure M2 (X:Cx)(o:Expr)(m:Str)(apos:Pos)(e f:Expr)(gU:Pos):Prop where
 base:attributeBase o m X.env (eval o X.env)=eval o X.env
 A4:((backTo gU (starEach [e,f] X.env)).all (λx=>!x.1) && (backToKw gU (keywordEach [] X.env)).all (λx=>x.1.isSome)
  && decide (([e,f]:List Expr).length+([]:List Keyword).length+(if ([]:List Keyword).isEmpty then 0 else 1) < 30))=true
 line:(apos.endLine == gU.line)=true
 trees:backTo gU (starEach [e,f] X.env)=[(false,eval e X.env),(false,eval f X.env)]
def UC (H:Hp)(a:Addr):Prop:=(∃kvs,Rd H a (.dK kvs))\/∃kvs,Rd H a (.dT kvs)
def AN {X:Cx}{ag:List (Addr×Obj)}{σ:St}{H:Hp}{s:Shared}{a:Addr}(I:Inv X ag σ H s)(d:UC H a) :
  s.TypeIs (.ref a) "dict" /\ (∀b,Value.ref a=.ref b->∃ob,s.heap.get? b=some ob/\ob.dict=none)/\(a == sysModules)=false:=by
 rcases d with ⟨kvs,e⟩ | ⟨kvs,e⟩
 .obtain⟨_,hd,vs,_,dd⟩:=oE I.bZ e;refine⟨dd.typeIs,λb q=>?_,hd⟩;cases q;obtain⟨ob,_,_,h1,h2,_⟩:=dd;exact⟨ob,h1,h2.2.1⟩
 obtain⟨_,hd,xs,_,dd⟩:=tG I.bZ e;refine⟨dd.typeIs,λb q=>?_,hd⟩;cases q;obtain⟨ob,_,_,h1,h2,_⟩:=dd;exact⟨ob,h1,h2.2.1⟩
section
variable {X:Cx}{ag:List (Addr×Obj)}{σ:St}{H:Hp}{s:Shared}{a:Addr}{y d:V}{u r:Value}{o:Option V}{A:Around}{E:Value->Shared->Prop}
def Ow {Q:Value->Shared->Prop}(hu:A.units+1 < cLine)(I:Inv X ag σ H s)(g:bX H a y o)(ry:RelV y u)(rd:RelV d r)(h:∀w' s',Inv X ag σ H s'->RelV (o.getD d) w'->Q w' s') :
  wpAny (model X.prog X.w) A (call (.builtin "dict.get") [.ref a,u,r]) Q E s:=by
 rcases g with ⟨kvs,k,e,ey,l⟩ | ⟨kvs,k,b,e,ey,eb,l⟩
 .subst ey;obtain⟨z,hd,vs,rel,dd⟩:=oE I.bZ e;refine call_meetsIn PySem.F.slot_dict_get dd.typeIs PySem.F.entry_dict_get (PySem.F.args_dict_get_3 _ _ _) (meets_dict_get_default (bh X.prog X.w) a (l_ ry) hd r) ⟨_,dd.mapOf,h _ _ (I.tok _) ?_⟩;rw [l];exact(rel.val k).getD rd
 subst ey;cases (show u=Value.ref b from ry);obtain⟨z,hd,xs,rel,dd⟩:=tG I.bZ e;refine call_meetsIn PySem.F.slot_dict_get dd.typeIs PySem.F.entry_dict_get (PySem.F.args_dict_get_3 _ _ _) (meetsH_dict_get_default (tupleKind (bh X.prog X.w)) a b hd r) ⟨o7 hu,k,xs,mQ I.bZ eb,dd,h _ _ (I.tok _) ?_⟩;rw [l];exact(rel.val k).getD rd
end
def Fi (td ty tx:TE):TE:=λσ H Q=>td σ H λx H1=>∃a,x=.ref a/\UC H1 a/\ty σ H1 λy H2=>tx σ H2 λz H3=>∃o,bX H3 a y o/\Q (o.getD z) H3
section
variable {X:Cx}{o e f:Expr}{apos gU:Pos}{td ty tx:TE}
def ye (hu:X.A.units+1 < cLine)(ho:PE X o td)(he:PE X e ty)(hf:PE X f tx)(m:M2 X o "get" apos e f gU):PE X (.Call (.Attribute o "get" apos) [e,f] [] gU) (Fi td ty tx):=by
 intro ag s σ H Q I h;refine wpAny_Call_method m.base m.A4 m.line zH PySem.F.slot_dict_get PySem.F.type_dict_get (cX (ho ag s σ H _ I h) λu s1 bx=>?_);obtain⟨x,H1,I1,rx,a,ex,d,q1⟩:=bx;subst ex;obtain rfl:u=Value.ref a:=rx;obtain⟨t1,t2,_⟩:=AN I1 d;refine⟨t1,t2,?_⟩;rw [m.trees];refine rG rfl (vC (p_ (cX (he ag s1 σ H1 _ I1 q1) λiv s2 ⟨y,H2,I2,ry,q2⟩ =>
  p_ (cX (hf ag s2 σ H2 _ I2 q2) λfv s3 ⟨z,H3,I3,rz,ov,g,q3⟩=>oX ?_))))
 exact Ow hu I3 g ry rz λw' s4 I4 Ae=>⟨_,H3,I4,Ae,q3⟩
end
section
variable {X:Cx}{ag:List (Addr×Obj)}{σ:St}{H:Hp}{s:Shared}{a:Addr}{kvs:List (aL×V)}{A:Around}{E:Value->Shared->Prop}
end
section
variable {X:Cx}{ag:List (Addr×Obj)}{σ:St}{H:Hp}{s:Shared}{a:Addr}{y:V}{u:Value}{A:Around}{E:Value->Shared->Prop}
end
end L2
set_option maxHeartbeats 4000000
namespace L2
open PySem
def wQ:typeLookup (.type "list") "keys"=pure none:=by rw [typeLookup_type,vI];kernel_rfl
def wR:typeLookup (.type "list") "__getattr__"=pure none:=by rw [typeLookup_type,vI];kernel_rfl
section
variable {prog:Program}{w:World}{A:Around}{E:Value->Shared->Prop}{h:Heap}{g:Array GenState}{d:Drawn}{t:Nat}{os:OsState}{a:Addr}{o:Obj}
def Fm:isSubtype (.type "AttributeError") (.type "AttributeError")=pure true:=by rw [isSubtype_type];kernel_rfl
def M3 {m:Str}{tk:Tok}:ownMembersOf (.type "AttributeError") [.str m tk]=#[unsetMember,unsetMember]:=by kernel_rfl
def HQ {m:Str}{tk:Tok}:firstArgMember (.type "AttributeError") [.str m tk]=pure .none:=by kernel_rfl
def Af {α:Type}{self:Value}{name msg:Str}{Q:α->Shared->Prop}(hm:msg.length<=sizeLine)(hh:A.handled=none)
  (hq:∀h' t' e oe,(∀b o,h.get? b=some o->h'.get? b=some o)->h'.get? e=some oe->oe.cls=.type "AttributeError" -> E (.ref e) ⟨h',g,d,t',os⟩) :
  wpAny (model prog w) A (raiseAttrError self name msg) Q E ⟨h,g,d,t,os⟩:=by
 have f1:=Fm;unfold raiseAttrError newExc;refine aq (wpAny_mkStr ?_ hm);have fe:=HQ (m:=msg) (tk:=t);rw [M3]
 repeat (any_goals (first | assumption | wp_step))
 unfold raiseNew;refine aq (wpAny_handled ?_);rw [hh];refine aq (aH ?_);refine wpAny_throw ?_;refine hq _ _ _ _ (λb o q=>?_) (qT _ (cA _ rfl) rfl) rfl;have lt:=bu q;rw [vK _ _ (by rw [j6];exact j4 (pZ lt))];exact bH _ (bH _ q)
def AL {tk:Tok}{aN:Array Value}{n:Nat}{Q:Fin->Shared->Prop}(hx:h.get? a=some { cls:=.type "list",data:=.seq aN n })(hh:A.handled=none)
  (hq:∀h' t' e oe,(∀b o,h.get? b=some o->h'.get? b=some o)->h'.get? e=some oe->oe.cls=.type "AttributeError" -> E (.ref e) ⟨h',g,d,t',os⟩) :
  wpAny (model prog w) A (Builtin.«object.__getattribute__» ⟨[.ref a,.str "keys" tk],[]⟩) Q E ⟨h,g,d,t,os⟩:=by
 have hT:(⟨h,g,d,t,os⟩:Shared).TypeIs (.ref a) "list" := ⟨_,hx,rfl⟩;have f4:=wQ
 repeat (any_goals (first | assumption | wp_step))
 exact Af nofun hh hq
def pJ {aN:Array Value}{n:Nat}{Q:Option Value->Shared->Prop}(hx:h.get? a=some { cls:=.type "list",data:=.seq aN n })(hh:A.handled=none)
  (hq:∀h' t',(∀b o,h.get? b=some o->h'.get? b=some o)->Q none ⟨h',g,d,t',os⟩):wpAny (model prog w) A (getAttr? (.ref a) "keys") Q E ⟨h,g,d,t,os⟩:=by
 have hT:∀t',(⟨h,g,d,t',os⟩:Shared).TypeIs (.ref a) "list" := λt'=>⟨_,hx,rfl⟩;have f1:=Fm;have f2:=vP.lookup;have f3:=vP.bind (.ref a);have f4:=wR;unfold getAttr? getAttrBy? getAttrBy;refine aq (wpAny_mkText (aq (oO (iW (aq (jY (hT _) ?_))))));rw [f2];refine aq (aH ?_);show wpAny _ _ (getAttrByItsOwn _ _ _ _ _ _) _ _ _;unfold getAttrByItsOwn;refine aq (aH (a:=none) (aq (oO (iW ?_))));show wpAny _ _ (boundAndCalled _ _ _) _ _ _;unfold boundAndCalled;rw [f3];refine aq (aH (kO (vE vP.plain F.entry_list_ga (vP.check _ _ _ _ _ _ _ _ (hT _) (F.args_list_getattribute_2 _ _) (AL hx hh λh' t' e oe k ee ec=>?_)))));have te:(⟨h',g,d,t',os⟩:Shared).TypeIs (.ref e) "AttributeError" := ⟨oe,ee,ec⟩;show wpAny _ _ (getattributeRaised _ _ _ _ _ _ _) _ _ _;unfold getattributeRaised;refine aq (rh te f1 ?_);rw [ax rfl];show wpAny _ _ (typeLookup _ _ >>= _) _ _ _;rw [f4];refine aq (aH ?_);show wpAny _ _ (throw _) _ _ _;refine wpAny_throw ?_;refine aq (rh te f1 ?_);rw [ax rfl];exact aH (hq h' t' k)
end
def fQ:plainId "dict.update.loop"=true:=by decide +kernel
def lP:entryFor table "dict.update.loop"=some Builtin.«dict.update.loop»:=entryFor_of_tree (nofun)
section
variable {prog:Program}{w:World}{K:Type} [DecidableEq K] {knd:KeyKind prog w K}{A:Around}{E:Value->Shared->Prop}
def mX (knd:KeyKind prog w K)(h:Heap)(u:Value)(kv:K×Value):Prop :=
 ∃t key n o,u=.ref t/\knd.is kv.1 key=true/\h.get? t=some o/\o.cls=.type "tuple" /\ o.data=.seq #[key,kv.2] n
def mX.keep {h h':Heap}{u:Value}{kv:K×Value}(p:mX knd h u kv)(k:∀b o,o.cls=.type "tuple" -> h.get? b=some o->h'.get? b=some o):mX knd h' u kv :=
 let ⟨t,key,n,o,a,b,c,d,e⟩:=p;⟨t,key,n,o,a,b,k t o d c,d,e⟩
def H_ {R:Result->Shared->Prop}{d it l:Addr}{items:Array Value}(hh:A.handled=none):∀(more:List (K×Value)) (i:Nat)(s:Shared)(kvs:List (K×Value)) (j:Int)(tk:Tok),items.size=i+more.length ->
  s.heap.DictOf knd d kvs->s.heap.IsListIter it l i->s.heap.IsList l items->(∀m kv,more[m]?=some kv->∃u,items[i+m]?=some u/\mX knd s.heap u kv)->kvs.length+more.length<=sizeLine ->
  (∀h' t',h'.DictOf knd d (more.foldl (λa p=>stored a p.1 p.2) kvs)->(∀b o,b≠d->b≠it->s.heap.get? b=some o->h'.get? b=some o)->R (.ok (.ret .none)) { s with heap:=h',toks:=t' }) ->
  codeAny (model prog w) A (.builtin "dict.update.loop" ⟨[.ref d,.ref it,.int j tk,.none],[]⟩) R s:=by
 intro more
 induction more with
 | nil =>
  intro i s kvs j tk hi hd hit hl hp hz hR;refine kM lP ?_;rw [lW fQ _];unfold Builtin.«dict.update.loop»;have hs:items[i]?=none:=vO (by rw [hi];exact aD _);refine aq (vJ hh hit hl hs λh1 eb=>?_);have nd:d≠it:=λz=>by
   obtain⟨o,_,_,q,_,c,_⟩:=hd;obtain⟨o',q',_,c'⟩:=hit;rw [z,q'] at q;cases q;rw [c'] at c;cases c
  show wpAny _ _ (Builtin.Dict.addKeywords d [] >>= _) _ _ _;exact aq (aH (aH (hR h1 s.toks (hd.extBut eb nd) λb o n1 n2 q=>eb b o n2 q)))
 | cons kv more ih =>
  intro i s kvs j tk hi hd hit hl hp hz hR;refine kM lP ?_;rw [lW fQ _];unfold Builtin.«dict.update.loop»;obtain⟨u,hu,t,key,n,o,rfl,hk,ho,hc,Cn⟩:=hp 0 kv rfl;refine aq (wpAny_pyNext_list_item hit hl hu λh1 Wk sb=>?_);have nd:d≠it:=λz=>by
   obtain⟨o,_,_,q,_,c,_⟩:=hd;obtain⟨o',q',_,c'⟩:=hit;rw [z,q'] at q;cases q;rw [c'] at c;cases c
  have n2:∀b o,(o.cls=.type "tuple" \/ o.cls=.type "list")->s.heap.get? b=some o->b≠d/\b≠it:=by
   intro b o c q;constructor
   .intro z;obtain⟨o',q',c'⟩:=hd.typeIs;rw [z,q'] at q;cases q;rw [c'] at c;rcases c with c | c <;> exact absurd c nofun
   intro z;obtain⟨o',q',c',_⟩:=hit;rw [z,q'] at q;cases q;rw [c'] at c;rcases c with c | c <;> exact absurd c nofun
  have nt:∀b o,o.cls=.type "tuple" -> s.heap.get? b=some o->b≠d/\b≠it:=λb o c q=>n2 b o (.inl c) q;have nl:l≠d/\l≠it:=by
   obtain⟨o,q,c,_⟩:=hl;exact n2 l o (.inr c) q
  have EW:h1.get? t=some o:=(sb.2 t (nt t o hc ho).2).trans ho;have uW:h1.DictOf knd d kvs:=hd.sameBut sb nd;refine aq (iW (aq (wpAny_tryCatch ?_)));unfold Builtin.Dict.pairItems;refine aq (jY (T := "tuple") ⟨o,EW,hc⟩ ?_);rw [ax nofun];refine aq (mr EW Cn (aH ?_));show wpAny _ _ (holding [key,kv.2] (dictSet d key kv.2)) _ _ _;rw [dS] at hz hi;refine iW (wpAny_dictSet_pairs (s:={ s with heap:=h1 }) hk uW (λh2 hd2 Qa=>?_) ∅);have kk:∀b o,b≠d->b≠it->s.heap.get? b=some o->h2.get? b=some o:=λb o n1 n2 q=>(Qa.2 b n1).trans ((sb.2 b n2).trans q);have ln:(stored kvs kv.1 kv.2).length<=kvs.length+1:=by
   unfold stored
   split
   .simp
   simp
  refine aH ⟨i9 fQ _,ih (i+1) _ _ _ _ ∅ hd2 (Wk.at λo q=>(Qa.2 it (fq nd)).trans q) (hl.at λo q=>kk l o nl.1 nl.2 q) (λm V_ e=>?_) ∅ λh3 t3 jf k3=>?_⟩
  .obtain⟨u',e1,e2⟩:=hp (m+1) V_ e;exact⟨u',by rw [<-e1];congr 1;omega,e2.keep λb o c q=>kk b o (nt b o c q).1 (nt b o c q).2 q⟩
  exact hR h3 t3 jf λb o n1 n2 q=>k3 b o n1 n2 (kk b o n1 n2 q)
def zQ:(Value.type "list" != Value.type "dict")=true:=by decide
def tR {s:Shared}{l:Addr}{items:Array Value}{n:Nat}{more:List (K×Value)}{Q:Value->Shared->Prop}(knd:KeyKind prog w K)(hh:A.handled=none)(hx:s.heap.get? l=some { cls:=.type "list",data:=.seq items n })
  (hi:items.size=more.length)(hp:∀(m:Nat) kv,more[m]?=some kv->∃u,items[m]?=some u/\mX knd s.heap u kv)(hz:more.length<=sizeLine)
  (h:∀h' t',h'.DictOf knd s.heap.objs.size (more.foldl (λa p=>stored a p.1 p.2) [])->(∀b o,s.heap.get? b=some o->h'.get? b=some o)->Q (.ref s.heap.objs.size) { s with heap:=h',toks:=t' }) :
  wpAny (model prog w) A (call (.type "dict") [.ref l]) Q E s:=by
 refine callType_codes (Q₁:=λobj s₁=>obj=.ref s.heap.objs.size/\s₁={ s with heap:=s.heap.push { cls:=.type "dict",data:=.dict #[] } }) F.kt_called_dict (F.kt_typeCall_dict_1 _) F.entry_dict_init (kt_code_dict_new _ ⟨rfl,rfl⟩) ?_;rintro obj s₁ ⟨rfl,rfl⟩;have AA:(s.heap.push { cls:=.type "dict",data:=.dict #[] }).DictOf knd s.heap.objs.size []:=Heap.DictOf.new s.heap;have l0:=bH { cls:=.type "dict",data:=.dict #[] } hx;refine⟨AA.typeIs,F.args_dict_init_2 _ _,?_⟩;unfold Builtin.«dict.__init__» Builtin.Dict.selfAndRest;refine aq (aq (wpAny_notOrdered_dict AA.typeIs (aH ?_)));show wpAny _ _ (Builtin.Dict.updateFrom "dict.__init__" s.heap.objs.size (.ref l) [] .none) _ _ _;unfold Builtin.Dict.updateFrom;refine aq (jY (T := "list") ⟨_,l0,rfl⟩ ?_);rw [ax zQ];refine aq (pJ l0 hh λh1 t1 k1=>?_);refine aq (il ?_);have l1:=k1 _ _ l0;refine aq (mx ⟨_,l1,rfl,_,rfl⟩ ?_);have k2:∀b o,s.heap.get? b=some o->(h1.push { cls:=.type "list_iterator",data:=.fields #[.ref l,.int 0 0] }).get? b=some o:=λb o q=>bH _ (k1 _ _ (bH _ q));refine aH ⟨i9 fQ _,H_ (knd:=knd) (A:=A.in1) (l:=l) (items:=items) (show A.in1.handled=none from hh) more 0 _ [] _ _ (by rw [hi,oP]) ?_ ⟨_,cA _ rfl,rfl,rfl⟩ ⟨_,k2 _ _ hx,rfl,n,rfl⟩ (λm kv e=>?_) (by simpa using hz) λh' t' hd k3=>?_⟩
 .obtain⟨o,es,ep,q,r⟩:=AA;exact⟨o,es,ep,bH _ (k1 _ _ q),r⟩
 .obtain⟨u,e1,e2⟩:=hp m kv e;exact⟨u,by rw [oP];exact e1,e2.keep λb o _ q=>k2 b o q⟩
 refine⟨rfl,h h' t' hd λb o q=>k3 b o (bE (bu q)) ?_ (k2 b o q)⟩;have:=bu (k1 _ _ (bH { cls:=.type "dict",data:=.dict #[] } q));exact bE this
end
open PySem PySem.Spec PyProof.Rows
def EI (X:Cx)(ifs:List Expr)(t:TT):Prop :=
 ∀(ag:List (Addr×Obj))(s:Shared)(σ:St)(H:Hp)(Q:Bool->Hp->Prop),Inv X ag σ H s->t σ H Q ->
  wpAny (model X.prog X.w) X.A (forIn ifs true λc r=>if r=true then do let ok <-isTrue c X.env (eval c X.env);pure (ForInStep.yield ok) else pure (ForInStep.yield r)) (TP X ag σ Q) X.xe s
def hX:TT:=λ_ H Q=>Q true H
def bQ {X:Cx}:EI X [] hX:=λ_ _ _ H _ I h=>wpAny_tests_nil ⟨H,I,h⟩
def hU {X:Cx}{c:Expr}{t:TT}(h:PT X c t):EI X [c] t:=λag s σ H Q I hw=>wpAny_tests_one (h ag s σ H Q I hw)
def qp {prog:Program}{w:World}{A:Around}{R:Result->Shared->Prop}{s:Shared}{elt target iter:Expr}{ifs:List Expr}{scope:Scope}{pos:Pos}{it bI:Value}{env:Env}(I:Nat->Shared->Prop)
  (turn:∀n s,I n s->wpAny (model prog w) A (pyNext it) (λr s₁=>match r with
   | none=>R (.ok .next) s₁
   | some v=>wpAny (model prog w) A (letOwnedTupleGo target it v) (λ_ s₁=>wpAny (model prog w) A (assign target env v) (λ_ s₂ =>
     wpAny (model prog w) A (forIn ifs true λc r=>if r=true then do let ok <-isTrue c env (eval c env);pure (ForInStep.yield ok) else pure (ForInStep.yield r)) (λok s₃ =>
      if ok=true then wpAny (model prog w) A (eval elt env) (λx s₄ =>
       wpAny (model prog w) A (call (.builtin "list.append") [bI,x]) (λ_ s₅=>∃m,m < n/\I m s₅) (λ_ _=>False) s₄) (λ_ _=>False) s₃
      else ∃m,m < n/\I m s₃) (λ_ _=>False) s₂) (λ_ _=>False) s₁) (λ_ _=>False) s₁) (λ_ _=>False) s)
  (n:Nat)(h:I n s) :
  codeAny (model prog w) A (.compLoop (.ListComp elt [⟨target,iter,ifs,0⟩] scope pos) 0 it bI env) R s:=by
 refine codeAny_loop rfl I (λn s hI=>?_) n h;show wpAny _ A ((compTurn (.ListComp elt [⟨target,iter,ifs,0⟩] scope pos) 0 it bI env).onRaise (λx=>do noteFrame x env;theTreesLotGoes x)) _ _ s;refine wpAny_noted ?_;rw [compTurn_list];refine aq (wpAny_standAt (aq (dC (turn n s hI) (λr s₁ h₁=>?_) λ_ _ h'=>h'.elim)));cases r with
 | none=>exact aH h₁
 | some v =>
  refine aq (dC h₁ (λ_ s₂ h₂=>?_) λ_ _ h'=>h'.elim);refine aq (dC h₂ (λ_ s₂ h₂=>aq (dC h₂ (λok s₃ h₃=>?_) λ_ _ h'=>h'.elim)) λ_ _ h'=>h'.elim);cases ok with
  | false=>exact aH ⟨rfl,h₃⟩
  | true =>
   exact aq (aq (dC h₃ (λx s₄ h₄=>aq (dC h₄ (λ_ s₅ h₅=>aH (aH ⟨rfl,h₅⟩)) λ_ _ h'=>h'.elim)) λ_ _ h'=>h'.elim))
inductive zo (K:a8)(H:Hp):V->String->Prop where
 | bl (x:Bool):zo K H (.bl x) "bool"
 | int (i:Int):zo K H (.int i) "int"
 | str (x:Str):zo K H (.str x) "str"
 | tup {a:Addr}{xs:List V}(e:aR K H a xs):zo K H (.ref a) "tuple"
def cK {X:Cx}:ij X (.builtin "isinstance") (λxs H Q=>∃x T n b,xs=[x,.ty n]/\zo X.K H x T/\PySem.W.kitOne X.K (.type T) (.type n)=some b/\Q (.bl b) H):=by
 intro ag s σ H xs us Q I r h;obtain⟨x,T,n,b,rfl,ty,e,q⟩:=h;obtain⟨u,w',rfl,rx,rn⟩:=vals2 r;cases (show w'=Value.type n from rn);have fin:∀tk,EP X ag σ Q (.bool b) { s with toks:=tk }:=λtk=>⟨.bl b,H,I.tok _,rfl,q⟩;cases ty with
 | bl y=>cases (show u=Value.bool y from rx);exact PySem.W.kia_one PySem.W.kitx_bool I.wX True.intro e (λz=>nomatch z) fin
 | int i=>obtain⟨t,z⟩:=(show ∃t,u=Value.int i t from rx);cases z;exact PySem.W.kia_one PySem.W.kitx_int I.wX True.intro e (λz=>nomatch z) fin
 | str y=>obtain⟨t,z⟩:=(show ∃t,u=Value.str y t from rx);cases z;exact PySem.W.kia_one PySem.W.kitx_str I.wX True.intro e (λz=>nomatch z) fin
 | @tup a ys hq =>
  cases (show u=Value.ref a from rx);obtain⟨aN,_,⟨o,h1,h2,_⟩,_⟩:=I.tuple hq;exact PySem.W.kia_one PySem.W.kitx_tuple I.wX ⟨o,h1,h2⟩ e (λz=>nomatch z) fin
def Df {X:Cx}{a:Expr}{ta:TE}(K:a8)(ha:PE X a ta)(he:∀whole,isTrue a X.env whole=(do let v <-whole;standAt a.pos;holding [v] (truthy v)))(hK:X.K=K:=by rfl) :
  PT X a (λσ H Q=>ta σ H λx H'=>∃k,Iu K x H' k/\Q k H'):=by
 subst hK;exact iL ha he
def Dj {X:Cx}(hu:X.A.units < cLine):kJ X (compareOp .Eq) (λx y H Q=>∃a b xs,x=.ref a/\y=.ref b/\aG X.K H a xs/\aG X.K H b []/\Q (.bl (xs.isEmpty)) H):=by
 intro ag s σ H x y v u Q I rx ry h;obtain⟨a,b,xs,rfl,rfl,ha,hb,q⟩:=h;cases rx;cases ry;obtain⟨aN,r,pl,hz⟩:=I.list ha;obtain⟨d7,r2,zt,Wo⟩:=I.list hb;have e2:d7=[]:=aY.zero r2;subst e2;have br:=r.length;cases xs with
 | nil =>
  have e:aN=[]:=aY.zero r;subst e;refine SeqAt.eq_listAt (e:=λ_=>true) pl.isList zt.isList rfl hu (λj h1 _=>absurd h1 (by simp)) ⟨.bl true,H,I,rfl,q⟩
 | cons y ys =>
  refine SeqAt.eq_list_lengthsAt pl.isList zt.isList ?_ hu ⟨.bl false,H,I,rfl,q⟩;rw [bO,bO,<-br];simp
structure KR (env:Env)(scope:Scope)(cl:List (Str×Addr)):Prop where
 eq:closureFor scope env=pure cl
 sub:∀y c,cl.lookup y=some c->env.cells.lookup y=some c
 all:∀y,(y,NameKind.free)∈scope.names->∃c,cl.lookup y=some c
def jS {y n:Str}{c:Addr}{l:List (Str×Addr)}:((n,c)::l).lookup y=if y=n then some c else l.lookup y:=by
 by_cases h:y=n
 .rw [ax h];simp [List.lookup,h]
 rw [aw h];simp [List.lookup,kN.mpr h]
def xj {env:Env}{scope:Scope}(h:∀y,(y,NameKind.free)∈scope.names->∃c,env.cells.lookup y=some c):∃cl,KR env scope cl:=by
 have go:∀(names:List (Str×NameKind))(bI:List (Str×Addr)),(∀y,(y,NameKind.free)∈names->∃c,env.cells.lookup y=some c)->(∀y c,bI.lookup y=some c->env.cells.lookup y=some c) ->
   ∃cl,(forIn names bI λ(x:Str×NameKind)(cs:List (Str×Addr))=>(if x.2 == .free then do let c <-cellOf env x.1;pure (ForInStep.yield ((x.1,c)::cs)) else pure (ForInStep.yield cs):Sem (ForInStep (List (Str×Addr)))))=pure cl /\
    (∀y c,cl.lookup y=some c->env.cells.lookup y=some c)/\(∀y,(y,NameKind.free)∈names->∃c,cl.lookup y=some c)/\∀y c,bI.lookup y=some c->∃c',cl.lookup y=some c':=by
  intro names
  induction names with
  | nil=>intro bI _ hs;exact⟨bI,rfl,hs,λy hy=>absurd hy (by simp),λy c e=>⟨c,e⟩⟩
  | cons x r ih =>
   intro bI hf hs;obtain⟨n,k⟩:=x;rw [List.forIn_cons];by_cases hk:k=.free
   .subst hk;obtain⟨c0,e0⟩:=hf n cJ;obtain⟨cl,e1,e2,e3,e4⟩:=ih ((n,c0)::bI) (λy hy=>hf y (cW _ hy)) (λy c e=>by
     rw [jS] at e;by_cases z:y=n
     .rw [ax z] at e;cases e;rw [z];exact e0
     rw [aw z] at e;exact hs y c e)
    refine⟨cl,?_,e2,λy hy=>?_,λy c e=>?_⟩
    .rw [<-e1];have:cellOf env n=pure c0:=by unfold cellOf;rw [e0]
     simp only [this];rfl
    .rcases bY.mp hy with z | z
     .cases z;exact e4 n c0 (by rw [jS,ax rfl])
     exact e3 y z
    by_cases z:y=n
    .exact e4 y c0 (by rw [jS,ax z])
    exact e4 y c (by rw [jS,aw z];exact e)
   obtain⟨cl,e1,e2,e3,e4⟩:=ih bI (λy hy=>hf y (cW _ hy)) hs;refine⟨cl,?_,e2,λy hy=>?_,e4⟩
   .rw [<-e1];have:(k == NameKind.free)=false:=by simpa using hk
    simp only [this];rfl
   rcases bY.mp hy with z | z
   .cases z;exact absurd rfl hk
   exact e3 y z
 obtain⟨cl,e1,e2,e3,_⟩:=go scope.names [] h (λy c e=>by simp at e);refine⟨cl,?_,e2,e3⟩;unfold closureFor;exact Eq.trans (congrArg (λt:Sem (List (Str×Addr))=>t >>= λcs=>pure cs) e1) rfl
def wF {scope:Scope}{env:Env}{y:Str}(hk:env.scope.kind=.function)(hy:scope.names.lookup y=some .free)(he:env.kindOf y=some .cell):(relabel scope env).names.lookup y=some .cell:=by
 have go:∀l:List (Str×NameKind),l.lookup y=some .free->(l.map λ(x:Str×NameKind)=>if (x.2 == NameKind.free && env.scope.kind == .function && env.kindOf x.1 == some .cell) then (x.1,NameKind.cell) else (x.1,x.2)).lookup y=some .cell:=by
  intro l
  induction l with
  | nil=>intro z;cases z
  | cons x r ih =>
   obtain⟨n,k⟩:=x;intro hy;rw [cO];by_cases z:y=n
   .subst z;simp [List.lookup] at hy;subst hy;simp [List.lookup,hk,he]
   have zb:(y == n)=false:=kN.mpr z;simp only [List.lookup,zb] at hy;have:=ih hy;dsimp only
   split <;> simp only [List.lookup,zb] <;> exact this
 exact go _ hy
theorem wO {α:Type}{y:Str}{v:α}:∀{l:List (Str×α)},l.lookup y=some v->(y,v)∈l
 | [],h=>by cases h
 | (n,u)::r,h=>by
  by_cases z:y=n
  .subst z;simp [List.lookup] at h;subst h;exact cJ
  have zb:(y == n)=false:=kN.mpr z;simp only [List.lookup,zb] at h;exact cW _ (wO h)
def nY {scope:Scope}{env:Env}{y:Str}{k:NameKind}(h:(relabel scope env).names.lookup y=some k)(hk:k=.cell\/k=.free)(hc:∀z∈scope.names,z.2≠.cell):(y,NameKind.free)∈scope.names:=by
 have m:=wO h;unfold relabel at m;obtain⟨⟨n,k'⟩,m1,m2⟩:=cy.mp m;dsimp only at m2
 split at m2
 .rename_i q
  cases m2;simp at q;obtain⟨⟨q,_⟩,_⟩:=q;subst q;exact m1
 cases m2;rcases hk with hk | hk
 .exact absurd hk (hc _ m1)
 rw [<-hk];exact m1
def tK (X:Cx)(scope:Scope)(cl:List (Str×Addr))(C:Addr)(s1:Shared)(H1:Hp) (N:List Str)(fp:List Addr):Cx :=
 { X with N:=N,s₀:=s1,H₀:=H1,env:=compEnvC scope cl C X.env,outer:=X.stack,stack:=X.stack,ex:=fp,fn:=λ_=>false,pn:=[],xe:=λ_ _=>False }
structure KS (X:Cx)(scope:Scope)(js:List (Nat×Str)):Prop where
 at_:∀p∈js,X.N[p.1]?=some p.2/\X.env.scope.names.lookup p.2=some .cell/\scope.names.lookup p.2=some .free
 all:∀y,(y,NameKind.free)∈scope.names->X.env.scope.names.lookup y=some .cell
def dO (ts:List Str)(js:List (Nat×Str))(σ:St):St:=ts.map (λ_=>none)++js.map λp=>(σ[p.1]?).join
def uT {X:Cx}{ag:List (Addr×Obj)}{σ:St}{H:Hp}{s1 s4:Shared}{scope:Scope}{ts:List Str}{js:List (Nat×Str)}{cl:List (Str×Addr)}{fp:List Addr}{C:Addr}{m:Str->Option Value}
  (I:Inv X ag σ H s1)(hf:∀b∈fp,xt X ag H b)(Hv:∀b∈fp,b < s1.heap.objs.size)(jq:scope.kind=.function)(jr:∀y∈scope.names,y.2≠.cell)(cp:KS X scope js)(m_:KR X.env scope cl)
  (hC:s1.heap.objs.size < C)(ho:s4.os=s1.os)(hg:s4.gens=s1.gens)(old:∀b o,s1.heap.get? b=some o->s4.heap.get? b=some o)(hn:s4.heap.Ns C m)
  (hD:s4.heap.get? s1.heap.objs.size=some { cls:=.type "list",data:=.seq ([]:List Value).toArray 0 }) :
  Inv (tK X scope cl C s1 H (ts++js.map (·.2)) fp) [] (dO ts js σ) (upd H s1.heap.objs.size (.lst [])) s4:=by
 have xk:X.env.scope.kind=.function:=I.ok.kind;have has:∀y,((relabel scope X.env).names.lookup y=some .cell\/(relabel scope X.env).names.lookup y=some .free)->∃c,cl.lookup y=some c:=λy hy=>m_.all y (by
  rcases hy with hy | hy
  .exact nY hy (.inl rfl) jr
  exact nY hy (.inr rfl) jr)
 have lt:∀y c,cl.lookup y=some c->c < s1.heap.objs.size:=λy c e=>by
  obtain⟨v,o,ho,_⟩:=I.cell y c (m_.sub y c e);exact bu ho
 refine⟨⟨I.ok.mod,jq,I.ok.glob,I.ok.blt,i8 hC,λy z c h1 h2=>I.ok.inj y z c (m_.sub _ _ h1) (m_.sub _ _ h2),has,λy c h _=>absurd (show false=true from h) c_,I.ok.hd,I.ok.frames,.inl rfl,
   λb hb=>⟨bE (jB (Hv b hb) hC),λy c h=>(hf b hb).2.2.2.2.1 y c (m_.sub _ _ h)⟩,I.bs,dI I.ok.Jf I.sz,λb o e hb=>?_,λb hb=>?_,I.stack,I.BJ⟩,
  ho,?_,Un.laid old (aD _) I.fresh,⟨m,hn,λi y v e1 e2 _=>?_⟩,λy c h=>?_,?_,λy c h=>?_,λp hp=>absurd (show p∈([]:List (Addr×Obj)) from hp) (by simp),I.bZ.laid old (aD _) ?_,?_⟩
 .obtain⟨_,_,_,h4,_⟩:=hf b hb;rcases h4 with h4 | h4
  .exact I.ok.GX b o e h4
  exact absurd (gu (bu (I.ok.bs b o e).1) h4) (jC _)
 .intro IV;obtain⟨_,h2,h3,_⟩:=hf b hb;rcases bY.mp (I.zR b IV) with z | z
  .exact h2 z
  exact h3 z
 .rw [hg];exact I.bare
 .have Ku:(ts++js.map (·.2))[i]?=some y:=e1;have Ek:(ts.map (λ_=>(none:Option V))++js.map λp=>(σ[p.1]?).join)[i]?=some (some v):=e2;by_cases hi:i < ts.length
  .rw [qd (by simpa using hi)] at Ek;simp [hi] at Ek
  rw [nv ∅] at Ku;rw [nv (by simpa using Nat.le_of_not_lt hi)] at Ek;rw [av] at Ek;rw [bo] at Ku Ek;cases hj:js[i - ts.length]? with
  | none=>rw [hj] at Ku;cases Ku
  | some p =>
   rw [hj] at Ku Ek;simp only [rm,Option.some.injEq] at Ku Ek;obtain⟨a1,a2,a3⟩:=cp.at_ p (b8 hj);subst Ku;have es:σ[p.1]?=some (some v):=by
    cases q:σ[p.1]? with
    | none=>rw [q] at Ek;cases Ek
    | some z=>rw [q] at Ek;exact congrArg some Ek
   obtain⟨m0,TN,lk⟩:=I.loc;obtain⟨u,ru,l⟩:=lk p.1 p.2 v a1 es (.inr (.inl a2));rcases l with l | ⟨_,c,ec,o,hc,hd⟩
   .have l1:X.env.scope.names.lookup p.2=some .local:=l.1;rw [a2] at l1;cases l1
   obtain⟨c',ec'⟩:=m_.all p.2 (wO a3);have e3:=m_.sub _ _ ec';rw [ec] at e3;cases e3;exact⟨u,ru,.inr ⟨.inl (wF xk a3 a2),c,ec',o,old _ _ hc,hd⟩⟩
 .obtain⟨v,o,h1,h2⟩:=I.cell y c (m_.sub y c h);exact⟨v,o,old _ _ h1,h2⟩
 .show upd H s1.heap.objs.size (.lst []) C=none;rw [ai (j4 hC)];exact I.bZ.fresh (i8 hC)
 .show upd H s1.heap.objs.size (.lst []) c=none;rw [ai (bE (lt y c h))];exact I.lF y c (m_.sub y c h)
 .exact⟨by show 0<=sizeLine;decide,[],0,.nil,hD⟩
 show (dO ts js σ).length=(ts++js.map (·.2)).length;simp [dO]
def Fj (wi:TI) (ts:List Str)(js:List (Nat×Str))(g:TG)(tif:TT)(te:TE):TE:=λσ H Q=>wi σ H λJ H1=>∀D,H1 D=none->∃W:Nat->Nat->List V->St->Hp->Prop,(∃m,W 0 m [] (dO ts js σ) (upd H1 D (.lst []))) /\
 ∀i m ys σ' H,W i m ys σ' H->(J.stop i H/\Q (.ref D) H)\/(J.go i H/\∃m',m' < m/\∀x H',J.mE i H x H'->g x σ' H' λσ2 H2=>tif σ2 H2 λb H3 =>
  if b=true then te σ2 H3 λy H4=>H4 D=some (.lst ys)/\ys.length < sizeLine/\W (i+1) m' (ys++[y]) σ2 (upd H4 D (.lst (ys++[y]))) else W (i+1) m' ys σ2 H3)
def ba {X:Cx}{elt iter tg:Expr}{ifs:List Expr}{scope:Scope}{pos:Pos}{wi:TI}{g:TG}{tif:TT}{te:TE}(ts:List Str)(js:List (Nat×Str))(hc:X.calm=true)(hi:PI X tg iter wi)
  (cp:KS X scope js)(jr:∀y∈scope.names,y.2≠.cell)(jq:scope.kind=.function)
  (AR:∀y∈scope.names,y.2=.local->scope.names.lookup y.1=some .local)
  (hg:∀cl C s1 H1 fp,PG (tK X scope cl C s1 H1 (ts++js.map (·.2)) fp) tg g)
  (WZ:∀cl C s1 H1 fp,EI (tK X scope cl C s1 H1 (ts++js.map (·.2)) fp) ifs tif)(he:∀cl C s1 H1 fp,PE (tK X scope cl C s1 H1 (ts++js.map (·.2)) fp) elt te)
  (hs:∀x,foldedSetIterable iter X.env x=pure x:=by intro _;rfl) :
  PE X (.ListComp elt [⟨tg,iter,ifs,0⟩] scope pos) (Fj wi ts js g tif te):=by
 intro ag s σ H Q I h;rw [eval_ListComp];obtain⟨cl,m_⟩:=xj (env:=X.env) (scope:=scope) λy hy=>I.ok.has y (.inl (cp.all y hy));refine wpAny_comprehension_free (use:=none) rfl hs m_.eq jq AR (cX (hi ag s σ H _ I h) λv s1 h1=>cX h1 λTB s2 h2=>?_);obtain⟨it,fp,tn,J,H2,e,I2,T,EM,f2,h2⟩:=h2;subst e;obtain⟨W,⟨m0,w0⟩,turn⟩:=h2 s2.heap.objs.size I2.fresh;have Hv:∀b∈fp,b < s2.heap.objs.size:=λb hb=>by obtain⟨o,e,_⟩:=T.obj _ _ EM b hb;exact bu e
 refine gI (wpAny_newFunctionEnv jr (by intro y hy;simp at hy) (λh₁ AQ wZ=>?_) jq);dsimp only at AQ wZ ⊢;generalize NV:s2.heap.push { cls:=.type "list",dict:=none,data:=.seq ([]:List Value).toArray }=G2 at AQ wZ ⊢;have Kj:G2.objs.size=s2.heap.objs.size+1:=by rw [<-NV,j6]
 have Xk:s2.heap.objs.size≠G2.objs.size:=by rw [Kj];exact bE (j8 _)
 have old:∀b o,s2.heap.get? b=some o->h₁.get? b=some o:=λb o e =>
  wZ.extBut b o (by rw [Kj];exact bE (pZ (bu e))) (bH _ (NV ▸ bH _ e))
 have uo:h₁.get? s2.heap.objs.size=some { cls:=.type "list",data:=.seq ([]:List Value).toArray 0 }:=wZ.extBut _ _ Xk (bH _ (NV ▸ cA _ rfl));generalize oq:tK X scope cl G2.objs.size s2 H2 (ts++js.map (·.2)) fp=X2;have I4:Inv X2 [] (dO ts js σ) (upd H2 s2.heap.objs.size (.lst [])) { s2 with heap:=h₁,toks:=s2.toks+([]:List (Str×Value)).length }:=by
  rw [<-oq];exact uT I2 f2 Hv jq jr cp m_ (by rw [Kj];exact j8 _) rfl rfl old AQ uo
 have x1:X2.prog=X.prog:=by rw [<-oq];rfl
 have x2:X2.w=X.w:=by rw [<-oq];rfl
 have x3:X2.K=X.K:=by rw [<-oq];rfl
 have x4:X2.calm=true:=by rw [<-oq];exact hc
 have x5:X2.A=X.A:=by rw [<-oq];rfl
 have x6:X2.env=compEnvC scope cl G2.objs.size X.env:=by rw [<-oq];rfl
 have x7:X2.xe=λ_ _=>False:=by rw [<-oq];rfl
 have W3:PG X2 tg g:=by rw [<-oq];exact hg _ _ _ _ _
 have NJ:EI X2 ifs tif:=by rw [<-oq];exact WZ _ _ _ _ _
 have AU:PE X2 elt te:=by rw [<-oq];exact he _ _ _ _ _
 have Mu:tn 0 h₁:=T.keep _ _ _ EM λb _ o e=>old b o e;have rR:∀{H':Hp}{ki:List (Addr×Obj)},(∀b∈fp,H' b=none)->(∀p∈ki,p.1∉fp)->∀b∈fp,xt X2 ki H' b:=λ{H' ki} hn hp b hb=>by
  have o4:=I4.ok;subst oq;exact⟨hn b hb,(o4.O7 b hb).1,o4.Ec b hb,.inl hb,(o4.O7 b hb).2,λp pL=>by
   have oM:p∈([]:List (Addr×Obj))++ki:=pL;rw [kR] at oM;intro z;exact hp p oM (by rw [z];exact hb)⟩
 have fin:∀{s':Shared}{σ':St}{H':Hp},Inv X2 [] σ' H' s'->Q (.ref s2.heap.objs.size) H' ->
   compPost (model X.prog X.w) X.A X.xe none (EP X ag σ Q) (.ref s2.heap.objs.size) G2.objs.size (.ok .next) s':=λ{s' σ' H'} J' q=>by
  subst oq;obtain⟨m',Ke,_⟩:=J'.loc;refine⟨m',Ke,λh' OU=>?_⟩;have u:Un (DY X.stack) fp H2 H' s2.heap s'.heap:=J'.base;have nC:∀b o,s2.heap.get? b=some o->b≠G2.objs.size:=λb o e=>by rw [Kj];exact bE (pZ (bu e))
  have u':Un (DY X.stack) fp H2 H' s2.heap h':=⟨λb o e n hb hx=>(OU.2 b (nC b o e)).trans (u.keep b o e n hb hx),λb o e n hb hx=>by
    obtain⟨sl,z⟩:=u.slot b o e n hb hx;exact⟨sl,(OU.2 b (nC b o e)).trans z⟩,u.free,λb o e hx=>by
    obtain⟨o',z⟩:=u.there b o e hx;exact⟨o',(OU.2 b (nC b o e)).trans z⟩,u.pj,u.mT,u.nH⟩
  have bZ:mj X.prog X.w H' h':=λb ob e=>by
   refine(J'.bZ b ob e).kX (λc w' mS q'=>(OU.2 c ?_).trans q') (λ_ q=>q) λ_ _ q=>q;intro z;have fr:H' G2.objs.size=none:=J'.free;rcases mS with z' | z'
   .rw [<-z'] at e;rw [z,fr] at e;cases e
   rw [z,fr] at z';cases z'
  have I5:Inv X ag σ H' { s' with heap:=h' }:=I2.LS (s':={ s' with heap:=h' }) J'.os u' bZ J'.bare λb hb=>by
   obtain⟨_,f1,_,f3,f4,f5⟩:=f2 b hb;exact⟨f3,f1,f4,f5⟩
  exact⟨.ref s2.heap.objs.size,H',I5,rfl,q⟩
 have loop:∀s₃:Shared,s₃={ s2 with heap:=h₁,toks:=s2.toks+([]:List (Str×Value)).length } ->
   codeAny (model X.prog X.w) X.A (.compLoop (.ListComp elt [⟨tg,iter,ifs,0⟩] scope pos) 0 (.ref it) (.ref s2.heap.objs.size) (compEnvC scope cl G2.objs.size X.env))
    (compPost (model X.prog X.w) X.A X.xe none (EP X ag σ Q) (.ref s2.heap.objs.size) G2.objs.size) s₃:=by
  rintro s₃ rfl;subst oq;refine qp (λn s'=>∃i ys σ' H',Inv (tK X scope cl G2.objs.size s2 H2 (ts++js.map (·.2)) fp) [] σ' H' s'/\tn i s'.heap/\(∀b∈fp,H' b=none)/\W i n ys σ' H') ?_ m0
   ⟨0,[],_,_,I4,Mu,λb hb=>by rw [ai (bE (Hv b hb))];exact(f2 b hb).1,w0⟩
  rintro n s' ⟨i,ys,σ0,H',J',uF,RP,w'⟩;rcases turn i n ys σ0 H' w' with ⟨stop,q⟩ | ⟨go,m',hm,step⟩
  .refine dC (T.done (tK X scope cl G2.objs.size s2 H2 (ts++js.map (·.2)) fp) rfl rfl rfl hc i [] s' _ H' (λ_ _=>False) J' (rR RP (by simp)) uF stop) (λr s4 ⟨hr,J4⟩=>?_) λ_ _ z=>z;subst hr;exact fin J4 q
  refine dC (T.item (tK X scope cl G2.objs.size s2 H2 (ts++js.map (·.2)) fp) rfl rfl rfl hc i [] s' _ H' (λ_ _=>False) J' (rR RP (by simp)) uF go) (λr s4 ⟨u,hr,h4⟩=>?_) λ_ _ z=>z;subst hr;refine dC h4 (λ_ s5 bx=>?_) λ_ _ z=>z;obtain⟨xv,H5,J5,r5,y5,CT,RO⟩:=bx;have YH:=J5.pinned (rR RO (by simp)) (T.obj _ _ CT);have back:∀{s7:Shared}{σ7:St}{H7:Hp},Inv (tK X scope cl G2.objs.size s2 H2 (ts++js.map (·.2)) fp) ([]++pF fp s5.heap) σ7 H7 s7->Inv (tK X scope cl G2.objs.size s2 H2 (ts++js.map (·.2)) fp) [] σ7 H7 s7/\tn (i+1) s7.heap/\∀b∈fp,H7 b=none:=λ{s7 σ7 H7} J7=>by
   refine⟨J7.kU,T.keep _ _ _ CT λb hb o e=>(J7.pin (b,o) (fU _ (fU _ (g8 hb e)))).1,λb hb=>?_⟩;obtain⟨o,e,d⟩:=T.obj _ _ CT b hb;exact(J7.pin (b,o) (fU _ (fU _ (g8 hb e)))).2.1
  show wpAny _ _ (assign tg (tK X scope cl G2.objs.size s2 H2 (ts++js.map (·.2)) fp).env u) _ _ s5;refine dC (W3 _ s5 _ H5 xv u _ YH r5 (step xv H5 y5)) (λ_ s6 bx=>?_) λ_ _ z=>z;obtain⟨σ6,H6,J6,q6⟩:=bx;refine dC (NJ _ s6 _ H6 _ J6 q6) (λb s7 bx=>?_) λ_ _ z=>z;obtain⟨H7,J7,q7⟩:=bx;cases b with
  | false =>
   rw [aw c_] at q7 ⊢;obtain⟨J8,Vc,Xv⟩:=back J7;exact⟨m',hm,i+1,ys,σ6,H7,J8,Vc,Xv,q7⟩
  | true =>
   rw [ax rfl] at q7 ⊢;refine dC (AU _ s7 _ H7 _ J7 q7) (λyv s8 bx=>?_) λ_ _ z=>z;obtain⟨y,H8,J8,r8,Xl,Wn,w8⟩:=bx;refine dC (bM (X:=tK X scope cl G2.objs.size s2 H2 (ts++js.map (·.2)) fp) _ s8 _ H8 (.ref s2.heap.objs.size) [y] (.ref s2.heap.objs.size) [yv] (λv H'=>W (i+1) m' (ys++[y]) σ6 H') J8 rfl (.cons r8 .nil) ⟨s2.heap.objs.size,ys,y,rfl,rfl,Xl,Wn,w8⟩)
    (λ_ s9 ⟨_,H9,J9,_,w9⟩=>?_) λ_ _ z=>z
   obtain⟨YI,Mv,N4⟩:=back J9;exact⟨m',hm,i+1,ys++[y],σ6,H9,YI,Mv,N4,w9⟩
 exact codeAny_compStart_list (loop _ rfl) (T.self _ _ _ _ _ Mu (loop _ rfl))
def SF (K:a8)(a:Addr):It :=
 ⟨λi H=>∃xs x,aG K H a xs/\xs[i]?=some x,λi H x H'=>∃t y,x=.ref t/\H t=none/\H'=upd H t (.tup [.int (i:Int),y])/\∀xs,aG K H a xs->xs[i]?=some y,λi H=>∃xs,aG K H a xs/\xs.length<=i⟩
def CO {P:Program}{w:World}{K:a8}{elts:List Expr}{k:Nat}{vT:Pos}(a e it:Addr)(Rw:e≠it) :
  Turn P w K (.Tuple elts k vT) (SF K a) [e,it] e (λi h=>(∃old,IsEnum h e it i old)/\h.IsListIter it a i) where
 mem:=by simp
 obj:=λi h st b hb=>by
  obtain⟨⟨old,he⟩,o,e1,c,d⟩:=st;rcases bY.mp hb with rfl | hb
  .exact⟨_,he,λv z=>by cases z⟩
  obtain rfl:b=it:=by simpa using hb
  exact⟨o,e1,λv z=>by rw [d] at z;cases z⟩
 keep:=λi h h' st k=>⟨⟨st.1.choose,k e (by simp) _ st.1.choose_spec⟩,st.2.at λo q=>k it (by simp) o q⟩
 item:=by
  intro X hP hw hK hc i ag s σ H E I hf st hg;subst hP hw hK;obtain⟨xs,x,hq,hx⟩:=hg;obtain⟨aN,rv,p,hz⟩:=I.list hq;obtain⟨u,hu,ru⟩:=rv.get hx;obtain⟨⟨old,he⟩,hit⟩:=st;refine wpAny_pyNext_enum_item he hit p.isList (x:=u) (by simpa using hu) Rw λh1 ho NI hT hsz hk=>?_;refine⟨_,rfl,wpAny_letOwnedTupleGo_enum ho λh2 Rx sb=>?_⟩;have ne:s.heap.objs.size≠e:=j4 (bu he);have kk:∀b o,b≠e->b≠it->s.heap.get? b=some o->h2.get? b=some o:=λb o n1 n2 q=>(sb.2 b n1).trans (hk b o n1 n2 q);have T2:h2.get? s.heap.objs.size=some { cls:=.type "tuple",data:=.seq #[.int i s.toks,u] }:=(sb.2 _ ne).trans hT;have fe:=hf e (by simp);have fi:=hf it (by simp);have fT:H s.heap.objs.size=none:=I.bZ.fresh (aD _);have tr:∀b v,H b=some v->b≠e/\b≠it:=λb v q=>⟨λz=>(by rw [z,fe.1] at q;cases q),λz=>(by rw [z,fi.1] at q;cases q)⟩;have nc:∀b,b∉[e,it]->b≠e/\b≠it:=λb z=>⟨λq=>z (by simp [q]),λq=>z (by simp [q])⟩;have lt:∀b o,s.heap.get? b=some o->b≠s.heap.objs.size:=λb o q=>bE (bu q);have I2:Inv X ag σ (upd H s.heap.objs.size (.tup [.int (i:Int),x])) { s with heap:=h2,toks:=s.toks+1 }:=by
   refine I.call (g':=s.gens) (t':=s.toks+1) (d':=s.drawn) (ch:=[e,it]) ⟨λb o q _ _ c=>kk b o (nc b c).1 (nc b c).2 q,λb o q _ _ c=>⟨o.slots,kk b o (nc b c).1 (nc b c).2 q⟩,
    λb o q n _=>by rw [ai (lt b o q)];exact n,λb o q c=>⟨o,kk b o (nc b c).1 (nc b c).2 q⟩,λb ys q=>by rw [ai (az q fT)];exact q,λb o v q=>by rw [ai (az q fT)];exact q,
    λb ps q=>⟨#[],by rw [ai (az q fT),q];simp⟩⟩ (λb v q=>?_) I.bare (λb hb=>?_)
   .by_cases hb:b=s.heap.objs.size
    .subst hb;rw [ae] at q;cases q;exact⟨by show 2<=sizeLine;decide,[.int i s.toks,u],.cons ⟨_,rfl⟩ (.cons ru .nil),_,T2,rfl,_,rfl⟩
    rw [ai hb] at q;refine(I.bZ b v q).kX (λc o mS z=>?_) (λc q'=>by rw [ai (az q' fT)];exact q') λc ys q'=>by rw [ai (az q' fT)];exact q'
    rcases mS with rfl | mS
    .exact kk c o (tr c _ q).1 (tr c _ q).2 z
    exact kk c o (tr c _ mS).1 (tr c _ mS).2 z
   rcases bY.mp hb with rfl | hb
   .exact⟨fe.2.2.2.1,fe.2.1,fe.2.2.2.2.1,fe.2.2.2.2.2⟩
   obtain rfl:b=it:=by simpa using hb
   exact⟨fi.2.2.2.1,fi.2.1,fi.2.2.2.2.1,fi.2.2.2.2.2⟩
  refine⟨.ref s.heap.objs.size,_,I2,rfl,⟨_,x,rfl,fT,rfl,λys hy=>by rw [I.sM hy hq];exact hx⟩,⟨⟨_,Rx⟩,NI.at λo q=>(sb.2 it Rw.symm).trans q⟩,λb hb=>?_⟩;have IV:H b=none/\∃o,s.heap.get? b=some o:=by
   rcases bY.mp hb with rfl | hb
   .exact⟨fe.1,_,he⟩
   obtain rfl:b=it:=by simpa using hb
   obtain⟨o,q,_⟩:=hit;exact⟨fi.1,o,q⟩
  obtain⟨n,o,q⟩:=IV;rw [ai (lt b o q)];exact n
 done:=by
  intro X hP hw hK hc i ag s σ H E I hf st hg;subst hP hw hK;obtain⟨xs,hq,hx⟩:=hg;obtain⟨aN,rv,p,hz⟩:=I.list hq;obtain⟨⟨old,he⟩,hit⟩:=st;obtain⟨f0,f1,f2,f3,f4,f5⟩:=hf it (by simp);have hl:=rv.length;exact wpAny_pyNext_enum_end (I.ok.hd hc) he hit p.isList (by simp;omega) λh' eb=>⟨rfl,I.turned (t':=s.toks) (λb o hb e=>eb b o hb e) f0 f1 f3 f4 f5⟩
 self:=λ_ _ _ _ _ st h=>wpAny_pyIter_enum st.1.choose_spec h
def vc:bootBuiltins "enumerate"=some (.type "enumerate"):=by decide +kernel
def QY (K:a8)(ta:TA):TI:=λσ H R=>ta σ H λvs H1=>∃a xs,vs=[.ref a]/\aG K H1 a xs/\R (SF K a) H1
def n5 {X:Cx}{elts:List Expr}{k:Nat}{vT:Pos}{l:Expr}{ta:TA}{p pos:Pos}(hg:Gl X "enumerate")(hm:X.mg "enumerate"=none)(ha:PA X [l] ta)(hs:starEach [l] X.env=[(false,eval l X.env)]:=by rfl) :
  PI X (.Tuple elts k vT) (.Call (.Name "enumerate" p) [l] [] pos) (QY X.K ta):=by
 intro ag s σ H R I h;refine Call_ (iQ I hg hm vc (xD (cX (ha pos ag s σ H _ I h) λus s1 bx=>?_) hs rfl));obtain⟨vs,H1,I1,r1,q1⟩:=bx;obtain⟨a,xs,e,hq,q⟩:=q1;subst e;obtain⟨u,rfl,rx⟩:=r1.one;cases rx;obtain⟨aN,rv,pl,hz⟩:=I1.list hq;refine call_enumerate_list pl.isList λh1 he hit hsz hk=>wpAny_pyIter_enum he ?_;refine⟨s1.heap.objs.size+1,[s1.heap.objs.size+1,s1.heap.objs.size],_,_,H1,rfl,I1.kept (t':=s1.toks) λb o e=>hk b o e,CO a _ _ (j4 (j8 _)),⟨⟨_,he⟩,hit⟩,λb hb=>?_,q⟩;rcases bY.mp hb with rfl | hb
 .exact I1.w_ (i7 _) (I1.bZ.fresh (i7 _))
 obtain rfl:b=s1.heap.objs.size:=by simpa using hb
 exact I1.w_ (aD _) (I1.bZ.fresh (aD _))
def df (kvs bI:List (aL×V)):List (aL×V):=kvs.foldl (λa p=>bL a p.1 p.2) bI
theorem tq:∀{kvs:List (aL×V)}{vs:List (aL×Value)}{bI:List (aL×V)}{Il:List (aL×Value)},KV kvs vs->KV bI Il->KV (df kvs bI) (vs.foldl (λa p=>stored a p.1 p.2) Il)
 | _,_,_,_,.nil,h=>h
 | _,_,_,_,.cons (a:=p) (b:=q) r t,h=>by
  obtain⟨e,rv⟩:=r;show KV (df _ (bL _ p.1 p.2)) (List.foldl _ (stored _ q.1 q.2) _);rw [<-e];exact tq t (h.put p.1 rv)
theorem tu:∀(kvs bI:List (aL×V)),(df kvs bI).length<=bI.length+kvs.length
 | [],bI=>by simp [df]
 | p::r,bI=>by
  have:=tu r (bL bI p.1 p.2);have:=fM bI p.1 p.2;show (df r (bL bI p.1 p.2)).length<=_;rw [dS];omega
section
variable {X:Cx}{ag:List (Addr×Obj)}{σ:St}{H:Hp}{s:Shared}
theorem pairs_at (I:Inv X ag σ H s):∀{ts:List Addr}{kvs:List (aL×V)}{aN:List Value},Paired (λt kv=>aR X.K H t [kV kv.1,kv.2]) ts kvs->aY (ts.map V.ref) aN ->
  ∃vs:List (aL×Value),KV kvs vs/\Paired (λu kv=>mX (bh X.prog X.w) s.heap u kv) aN vs
 | [],_,_,.nil,r=>by
  rw [mn] at r;cases r;exact⟨[],.nil,.nil⟩
 | t::ts,kv::kvs,_,.cons h p,r=>by
  rw [cO] at r;cases r with
  | cons r1 r2 =>
   obtain⟨vs,e1,e2⟩:=pairs_at I p r2;obtain⟨aN,rv,⟨o,h1,h2,n,h3⟩,_⟩:=I.tuple h;obtain⟨u1,u2,rfl,q1,q2⟩:=vals2 rv;exact⟨(kv.1,u2)::vs,.cons ⟨rfl,q2⟩ e1,.cons ⟨t,u1,n,o,r1,l_ q1,h1,h2,h3⟩ e2⟩
theorem Paired.at_ {α β:Type}{F:α->β->Prop}:∀{xs:List α}{ys:List β},Paired F xs ys->∀(m:Nat)(y:β),ys[m]?=some y->∃x,xs[m]?=some x/\F x y
 | _,_,.nil,m,y,e=>by cases m <;> cases e
 | _,_,.cons h t,0,y,e=>by cases e;exact⟨_,rfl,h⟩
 | _,_,.cons h t,m+1,y,e=>Paired.at_ t m y e
def dP (hc:X.calm=true):ij X (.type "dict") (λxs H Q=>∃a ts kvs,xs=[.ref a]/\H a=some (.lst (ts.map V.ref))/\Paired (λt kv=>aR X.K H t [kV kv.1,kv.2]) ts kvs/\∀d,H d=none->Q (.ref d) (upd H d (.dK (df kvs [])))):=by
 intro ag s σ H xs us Q I r h;obtain⟨a,ts,kvs,rfl,e,p,q⟩:=h;obtain⟨u,rfl,rx⟩:=vals1 r;cases (show u=Value.ref a from rx);obtain⟨z,aN,n,rv,ho⟩:=(show cM X.prog X.w H s.heap a (.lst _) from I.bZ a _ e);obtain⟨vs,r1,r2⟩:=pairs_at I p rv;have l1:=a_ r2;have l2:=r1.length;have l3:=a_ p;rw [av] at z;refine tR (bh X.prog X.w) (I.ok.hd hc) ho (by simpa using l1) (λm kv em=>?_) ∅ λh' t' hd kk=>?_
 .obtain⟨u,e1,e2⟩:=Paired.at_ r2 m kv em;exact⟨u,by simpa using e1,e2⟩
 have new:cM X.prog X.w (upd H s.heap.objs.size (.dK (df kvs []))) h' s.heap.objs.size (.dK (df kvs [])):=by
  refine tH ?_ ?_ (tq r1 .nil) hd
  .have:=tu kvs [];simp at this;omega
  have:=I.big;exact kN.mpr (j4 this)
 exact⟨.ref s.heap.objs.size,_,I.laid (t':=t') kk (aD _) new,rfl,q _ (I.bZ.fresh (aD _))⟩
theorem uN {α β:Type}{F:α->β->Prop}:∀{xs:List α}{ys:List β},xs.length=ys.length->(∀(j:Nat) x y,xs[j]?=some x->ys[j]?=some y->F x y)->Paired F xs ys
 | [],[],_,_=>.nil
 | [],_::_,e,_=>by cases e
 | _::_,[],e,_=>by cases e
 | x::xs,y::ys,e,h=>.cons (h 0 x y rfl rfl) (uN (Nat.succ.inj e) λj a b e1 e2=>h (j+1) a b e1 e2)
def Lq {P:Program}{w:World}{k:aL}{u:Value}(h:(bh P w).is k u=true):RelV (kV k) u:=by
 rcases dw (show sN k u=true from h) with ⟨i,t,rfl,rfl⟩ | ⟨x,t,rfl,rfl⟩
 .exact⟨t,rfl⟩
 exact⟨t,rfl⟩
def mW (hc:X.calm=true):ij X (.type "list") (λxs H Q=>∃a kvs,xs=[.ref a]/\H a=some (.dK kvs)/\∀D,H D=none->Q (.ref D) (upd H D (.lst (kvs.map λp=>kV p.1)))):=by
 intro ag s σ H xs us Q I r h;obtain⟨a,kvs,rfl,e,q⟩:=h;obtain⟨u,rfl,rx⟩:=vals1 r;cases (show u=Value.ref a from rx);obtain⟨z,hs,vs,rel,dd⟩:=yL I.bZ e;obtain⟨o,es,ep,d1,d2,d3,d4⟩:=dd;have l1:=rel.length;refine PySem.W.kdl_call (PySem.W.kdl_dict (knd:=bh X.prog X.w) (kvs:=vs) (ep:=ep) hs) (I.ok.hd hc) ⟨o,es,d1,d2,d3,d4⟩ ∅ λh' tk bI c kk hD uo=>?_;have keys:=rel.keys;have vals:aY (kvs.map λp=>kV p.1) bI.toList:=by
  refine uN (by have h1:=uo.1;simp only [av,iG];omega) λj x y e1 e2=>?_;rw [qW] at e2;obtain⟨k,v,e3,e4⟩:=uo.2 j y e2;rw [bo] at e1;obtain⟨p,e5,rfl⟩:=cg.mp e1;have e6:(kvs.map (·.1))[j]?=some p.1:=by rw [bo,e5];rfl
  rw [keys,bo,e3] at e6;cases e6;exact Lq e4
 have new:cM X.prog X.w (upd H s.heap.objs.size (.lst (kvs.map λp=>kV p.1))) h' s.heap.objs.size (.lst (kvs.map λp=>kV p.1)):=⟨by rw [av];exact z,bI.toList,c,vals,by simpa using hD⟩;exact⟨.ref s.heap.objs.size,_,I.laid (t':=tk) kk (aD _) new,rfl,q _ (I.bZ.fresh (aD _))⟩
end
def tW (v:V):Prop:=gZ v=true\/∃r,v=.ref r
def HU {x:V}(h:gZ x=true):u3 x x=true:=by
 cases x with
 | eV=>rfl
 | bl b=>exact o5 b
 | int i=>exact o5 i
 | str z=>exact o5 z
 | _=>cases h
def tE {A:Around}{s:Shared}{x:V}{u v:Value}(h:tW x)(ru:RelV x u)(rv:RelV x v):SeqAt.EqAt A s u v true:=by
 rcases h with h | ⟨r,rfl⟩
 .have q:=A7 (A:=A) (s:=s) ru rv h h;rw [HU h] at q;exact q
 cases (show u=Value.ref r from ru);cases (show v=Value.ref r from rv);exact .same _
section
variable {K:a8}{a D:Addr}{xs:List V}{ts:List Str}{js:List (Nat×Str)}{g:TG}{tif:TT}{te:TE}{R:Hp->Prop}{σ:St}{H:Hp}
def cI (Pv:Nat->List V->St->Hp->Prop)(h0:Pv 0 [] (dO ts js σ) (upd H D (.lst [])))(hl:∀i ys σ H,i<=xs.length->Pv i ys σ H->aG K H a xs)
  (hs:∀i x ys σ H,xs[i]?=some x->Pv i ys σ H->g x σ H λσ2 H2=>tif σ2 H2 λb H3=>if b=true then te σ2 H3 λy H4=>H4 D=some (.lst ys)/\ys.length < sizeLine/\Pv (i+1) (ys++[y]) σ2 (upd H4 D (.lst (ys++[y]))) else Pv (i+1) ys σ2 H3)
  (hd:∀ys σ H,Pv xs.length ys σ H->R H) :
  ∃W:Nat->Nat->List V->St->Hp->Prop,(∃m,W 0 m [] (dO ts js σ) (upd H D (.lst []))) /\
 ∀i m ys σ' H,W i m ys σ' H->((kn K a).stop i H/\R H)\/((kn K a).go i H/\∃m',m' < m/\∀x H',(kn K a).mE i H x H'->g x σ' H' λσ2 H2=>tif σ2 H2 λb H3 =>
  if b=true then te σ2 H3 λy H4=>H4 D=some (.lst ys)/\ys.length < sizeLine/\W (i+1) m' (ys++[y]) σ2 (upd H4 D (.lst (ys++[y]))) else W (i+1) m' ys σ2 H3):=by
 refine⟨λi m ys σ H=>m=xs.length - i/\i<=xs.length/\Pv i ys σ H,⟨xs.length,by simp,fj _,h0⟩,?_⟩;rintro i m ys σ' H ⟨rfl,hi,p⟩;have q:=hl i ys σ' H hi p;by_cases je:i < xs.length
 .refine .inr ⟨⟨xs,xs[i],q,by simp [je]⟩,xs.length - (i+1),∅,λx H' y=>?_⟩;obtain⟨e,y⟩:=y;subst e;have z:=hs i x ys σ' _ (y xs q) p;have h1:(i+1<=xs.length)=True:=eq_true je;simp only [h1,true_and];exact z
 have e:i=xs.length:=by omega
 subst e;exact .inl ⟨⟨xs,q,aD _⟩,hd ys σ' H p⟩
def yU {lo:Int}{n:Nat}(Pv:Nat->List V->St->Hp->Prop)(h0:Pv 0 [] (dO ts js σ) (upd H D (.lst [])))
  (hs:∀i ys σ H,i < n->Pv i ys σ H->g (.int (lo+i)) σ H λσ2 H2=>tif σ2 H2 λb H3=>if b=true then te σ2 H3 λy H4=>H4 D=some (.lst ys)/\ys.length < sizeLine/\Pv (i+1) (ys++[y]) σ2 (upd H4 D (.lst (ys++[y]))) else Pv (i+1) ys σ2 H3)
  (hd:∀ys σ H,Pv n ys σ H->R H) :
  ∃W:Nat->Nat->List V->St->Hp->Prop,(∃m,W 0 m [] (dO ts js σ) (upd H D (.lst []))) /\
 ∀i m ys σ' H,W i m ys σ' H->((KQ lo n).stop i H/\R H)\/((KQ lo n).go i H/\∃m',m' < m/\∀x H',(KQ lo n).mE i H x H'->g x σ' H' λσ2 H2=>tif σ2 H2 λb H3 =>
  if b=true then te σ2 H3 λy H4=>H4 D=some (.lst ys)/\ys.length < sizeLine/\W (i+1) m' (ys++[y]) σ2 (upd H4 D (.lst (ys++[y]))) else W (i+1) m' ys σ2 H3):=by
 refine⟨λi m ys σ H=>m=n - i/\i<=n/\Pv i ys σ H,⟨n,by simp,fj _,h0⟩,?_⟩;rintro i m ys σ' H ⟨rfl,hi,p⟩;by_cases je:i < n
 .refine .inr ⟨je,n - (i+1),∅,λx H' y=>?_⟩;obtain⟨rfl,rfl⟩:=y;have z:=hs i ys σ' _ je p;have h1:(i+1<=n)=True:=eq_true je;simp only [h1,true_and];exact z
 have e:i=n:=by omega
 subst e;exact .inl ⟨aD _,hd ys σ' H p⟩
end
def dY {K:a8}{t:Value}:PySem.W.kitOne K t t=some true:=by unfold PySem.W.kitOne;rw [ax (o5 t)]
def P2 (t:TS):TS:=λD σ H=>∃R:St->Hp->Prop,t { D with nx:=R } σ H/\∀σ' H',R σ' H'->D.nx σ' H'
def qL {X:Cx}{st:Stmt}{t:TS}(h:PS X st t):PS X st (P2 t):=by
 intro ag s σ H D I ⟨R,q,m⟩;refine cX (h ag s σ H _ I q) λf s1 z=>?_;cases f with
 | next=>obtain⟨σ',H',I',r⟩:=z;exact⟨σ',H',I',m _ _ r⟩
 | ret v=>exact z
 | brk=>exact z
 | cont=>exact z
def aE (P:Program)(w:World)(K:a8)(mg:Str->Option Value)(base:Heap) (k:Nat)(x:Str) (ps:List Str)(sp:Sp):Prop :=
 ∃f fd,bR P w K mg base fY k f fd ps sp/\Binds K fd ps []/\PySem.W.keepIn K (.ref f)=true/\mg x=some (.ref f)
theorem aE.mono {P:Program}{w:World}{K:a8}{mg:Str->Option Value}{base:Heap}{j k:Nat}{x:Str}{ps:List Str}{sp:Sp}(c:aE P w K mg base j x ps sp)(h:j<=k):aE P w K mg base k x ps sp :=
 let ⟨f,fd,a,b⟩:=c;⟨f,fd,a.mono h,b⟩
def bc {X:Cx}{k:Nat}{x:Str}{ps:List Str}{sp:Sp}{e:Expr}{es:List Expr}{t:TA}{p pos:Pos}(c:aE X.prog X.w X.K X.mg X.base k x ps sp)(hr:fh k X.A)(hg:Gl X x)(ha:PA X (e::es) t)
  (DQ:(x == ("__debug__":Str))=false:=by decide)(he:starEach (e::es) X.env=(false,eval e X.env)::starEach es X.env:=by rfl)(uU:(backTo pos (starEach es X.env)).any (·.1)=false:=by rfl) :
  PE X (.Call (.Name x p) (e::es) [] pos) (KZ sp [] E0 t):=by
 obtain⟨f,fd,G,b,kp,m⟩:=c;exact JK G hr hg m kp b .nil uL ha DQ he uU
def fits {n:Nat}(h:n<=1000000):n<=sizeLine:=dI h nofun
def bF {n:Nat}(h:n<=1000000):n < sizeLine:=rC h nofun
def af {H:Hp}{p:Addr}(h:H p=none)(o:HO):aB H (upd H p o):=λb u q=>by rw [ai (az q h)];exact q
def aB.tup {K:a8}{H H':Hp}{a:Addr}{xs:List V}(e:aB H H')(h:aR K H a xs):aR K H' a xs:=by
 rcases h with (h | ⟨o,h⟩) | h
 .exact .inl (.inl (e _ _ h))
 .exact .inl (.inr ⟨o,e _ _ h⟩)
 exact .inr h
def gC {X:Cx}(hc:X.calm=true):ij X (.builtin "all") (λxs H Q=>∃(a:Addr)(bs:List Bool),xs=[.ref a]/\aG X.K H a (bs.map V.bl)/\Q (.bl (bs.all id)) H):=by
 intro ag s σ H xs us Q I r h;obtain⟨a,bs,rfl,hq,q⟩:=h;obtain⟨u,rfl,rx⟩:=vals1 r;cases (show u=Value.ref a from rx);obtain⟨aN,rv,pl,hz⟩:=I.list hq;obtain⟨o,h1,h2,m,h3⟩:=id pl.isList;have la:a < s.heap.objs.size:=bu h1;have ln:=rv.length;rw [av] at ln;have isB:∀(i:Nat) v,aN.toArray[i]?=some v->v=.bool (bs.getD i true):=λi v e=>by
  have e':aN[i]?=some v:=by simpa using e
  obtain⟨x,e2,e3⟩:=Paired.at_ rv i v e';rw [bo] at e2;obtain⟨b,e4,rfl⟩:=cg.mp e2;rw [nu,e4];exact e3
 refine call_all_walk (mx pl.isList ?_);refine⟨s.heap.objs.size,_,_,_,_,_,λi=>bs.getD i true,rfl,Walks.list (A:=X.A.in1) (show X.A.in1.handled=none from I.ok.hd hc) s.heap.objs.size a (bE la) aN.toArray,⟨⟨_,cA _ rfl,rfl,rfl⟩,⟨o,bH _ h1,h2,m,h3⟩⟩,?_,λh' tk kk=>?_⟩
 .intro i v s1 Q1 E1 hP hQ1;rw [isB i v hP];exact nj hQ1
 have e:((List.range aN.toArray.size).all λi=>bs.getD i true)=bs.all id:=by
  rw [bO,<-ln,ng,gr,gr];constructor
  .intro h b hb;obtain⟨i,hi,e⟩:=qU.mp hb;have:=h i (jD.mpr hi);rw [nu,b_ hi,e] at this;exact this
  intro h i hi;have hi':=jD.mp hi;rw [nu,b_ hi'];exact h _ (pY hi')
 rw [e];exact⟨.bl _,H,I.kept (t':=tk) λb o' e'=>kk b o' (by simp;exact bE (bu e')) (bH _ e'),rfl,q⟩
section
variable {prog:Program}{w:World}{A:Around}{E:Value->Shared->Prop}{s:Shared}
def Az {it l:Addr}{i:Nat}{items:Array Value}{x:Value}{Q:Value->Shared->Prop}(hit:s.heap.IsTupleIter it l i)(hl:s.heap.IsTuple l items)(hx:items[i]?=some x)
  (hQ:∀h',h'.IsTupleIter it l (i+1)->Heap.SameBut it s.heap h'->Q x { s with heap:=h' }):wpAny (model prog w) A (Builtin.SmallTypes.nextOf (.ref it)) Q E s:=by
 obtain⟨o,ho,hc,hd⟩:=id hit;obtain⟨ol,OX,_,nl,Lw⟩:=hl;unfold Builtin.SmallTypes.nextOf;refine aq (nr (name:=Str.ofString "__next__") hit.typeIs vQ (j7 vQ hit.typeIs F.entry_tuple_iterator_next ?_ (F.args_tuple_iterator_next_1 _)));show wpAny _ _ (field (.ref it) 0 >>= λv=>_) _ _ s;refine aq (ir ho hd (x:=.ref l) (by rfl) ?_);show wpAny _ _ (if (Value.ref l == .none)=true then _ else _) _ _ s;rw [aw (by exact c_)];show wpAny _ _ (field (.ref it) 1 >>= λv=>_) _ _ s;refine aq (ir ho hd (x:=.int i 0) (by rfl) ?_);show wpAny _ _ (seqItems? (.ref l) >>= λv=>_) _ _ s;refine aq (mr OX Lw (by
  simp only [gJ,hx];refine aq (qY ho hd (by simp) (aH ⟨x,rfl,aH (hQ _ ⟨_,qT _ ho (Obj.isFreed_of_fields (o6 hd _)),(Obj.cls_mapFields ..).trans hc,?_⟩ (mD ..))⟩));rw [o6 hd];simp [rawInt]))
def A8 {e it l:Addr}{i:Nat}{items:Array Value}{x old:Value}{Q:Option Value->Shared->Prop}(he:IsEnum s.heap e it i old)(hit:s.heap.IsTupleIter it l i)(hl:s.heap.IsTuple l items)(hx:items[i]?=some x)(EX:e≠it)
  (hQ:∀h',IsEnumOut h' e it ((i:Int)+1) x s.heap.objs.size->h'.IsTupleIter it l (i+1)->h'.get? s.heap.objs.size=some { cls:=.type "tuple",data:=.seq #[.int i s.toks,x] } ->
   (∀b o,b≠e->b≠it->s.heap.get? b=some o->h'.get? b=some o)->Q (some (.ref s.heap.objs.size)) { s with heap:=h',toks:=s.toks+1 }) :
  wpAny (model prog w) A (pyNext (.ref e)) Q E s:=by
 have hT:s.TypeIs (.ref e) "enumerate" := ⟨_,he,rfl⟩;unfold pyNext;refine aq (oO (nr (name:=Str.ofString "__next__") hT vH (j7 vH hT F.entry_enumerate_next ?_ (F.args_enumerate_next_1 _))));obtain⟨hp,g,d,tk,os⟩:=s;show wpAny _ _ (field (.ref e) 2 >>= λv=>_) _ _ _;refine aq (ir he rfl (x:=.ref it) (by rfl) (aq (Az hit hl hx λh₁ WY Q9=>?_)));replace Q9:Heap.SameBut it hp h₁:=Q9;have W7:IsEnum h₁ e it i old:=(Q9.2 e EX).trans he;show wpAny _ _ (field (.ref e) 3 >>= λv=>_) _ _ ⟨h₁,g,d,tk,os⟩;refine aq (ir W7 rfl (x:=rawInt i) (by rfl) ?_);show wpAny _ _ (field (.ref e) 4 >>= λv=>_) _ _ ⟨h₁,g,d,tk,os⟩;refine aq (ir W7 rfl (x:=.none) (by rfl) ?_);show wpAny _ _ (mkInt i >>= λv=>_) _ _ ⟨h₁,g,d,tk,os⟩;refine aq (wpAny_mkInt ?_);show wpAny _ _ (setField (.ref e) 3 (rawInt ((i:Int)+1)) >>= λv=>_) _ _ ⟨h₁,g,d,tk+1,os⟩;refine aq (rA W7 (by simp) λh₂ f₂ hs₂=>?_);have he₂:IsEnum h₂ e it ((i:Int)+1) old:=f₂;have k₂:Heap.SameBut e h₁ h₂:=hs₂;show wpAny _ _ (setField (.ref e) 4 .none >>= λv=>_) _ _ ⟨h₂,g,d,tk+1,os⟩;refine aq (rA he₂ (by simp) λh₃ f₃ hs₃=>?_);have he₃:IsEnum h₃ e it ((i:Int)+1) old:=f₃;have k₃:Heap.SameBut e h₂ h₃:=hs₃;show wpAny _ _ (newTuple [.int i tk,x] >>= λv=>_) _ _ ⟨h₃,g,d,tk+1,os⟩;refine aq (wpAny_newTuple ?_);have T4:IsEnum (h₃.push { cls:=.type "tuple",data:=.seq #[.int i tk,x] }) e it ((i:Int)+1) old:=bH _ he₃;have hsz:h₃.objs.size=hp.objs.size:=by rw [k₃.1,k₂.1,Q9.1]
 have DO:e < hp.objs.size:=bu he;have Z4:(h₃.push { cls:=.type "tuple",data:=.seq #[.int i tk,x] }).get? hp.objs.size=some { cls:=.type "tuple",data:=.seq #[.int i tk,x] }:=by rw [<-hsz];exact cA _ rfl
 have hk₄:∀b o,b≠e->b≠it->hp.get? b=some o->(h₃.push { cls:=.type "tuple",data:=.seq #[.int i tk,x] }).get? b=some o:=λb o n1 n2 hb=>bH _ (k₃.extBut b o n1 (k₂.extBut b o n1 (Q9.extBut b o n2 hb)));have Rq:(h₃.push { cls:=.type "tuple",data:=.seq #[.int i tk,x] }).IsTupleIter it l (i+1):=WY.at λo q=>bH _ (k₃.extBut it o (fq EX) (k₂.extBut it o (fq EX) q));generalize h₃.push { cls:=.type "tuple",data:=.seq #[.int i tk,x] }=h₄ at T4 Z4 hk₄ Rq ⊢;rw [hsz];show wpAny _ _ (Builtin.SmallTypes.ownedTupleIsFree (.ref e) >>= λv=>_) _ _ ⟨h₄,g,d,tk+1,os⟩;refine aq (by
  unfold Builtin.SmallTypes.ownedTupleIsFree;refine aq (ir T4 rfl (x:=.none) (by rfl) (aH (by
   simp only [if_true];refine aq (il (aq (ir T4 rfl (x:=old) (by rfl) (aq (rA T4 (by simp) λh₅ f₅ hs₅=>?_)))));have he₅:IsEnum h₅ e it ((i:Int)+1) x:=f₅;have k₅:Heap.SameBut e h₄ h₅:=hs₅;show wpAny _ _ (Builtin.SmallTypes.ownedTupleHandOut (.ref e) (.ref hp.objs.size) >>= λv=>_) _ _ ⟨h₅,g,d,tk+1,os⟩;refine aq (by
    unfold Builtin.SmallTypes.ownedTupleHandOut;refine aq (rA he₅ (by simp) λh₆ f₆ hs₆=>?_);have he₆:IsEnumOut h₆ e it ((i:Int)+1) x hp.objs.size:=f₆;have k₆:Heap.SameBut e h₅ h₆:=hs₆;refine rA he₆ (by simp) λh₇ f₇ hs₇=>?_;have he₇:IsEnumOut h₇ e it ((i:Int)+1) x hp.objs.size:=f₇;have k₇:Heap.SameBut e h₆ h₇:=hs₇;have up:∀b o,b≠e->h₄.get? b=some o->h₇.get? b=some o:=λb o n q=>k₇.extBut b o n (k₆.extBut b o n (k₅.extBut b o n q));exact aq (wpAny_letGo (aH ⟨_,rfl,aH (hQ h₇ he₇ (Rq.at λo q=>up it o (fq EX) q) (up _ _ (j4 DO) Z4) λb o n1 n2 q=>up b o n1 (hk₄ b o n1 n2 q))⟩)))))))
def sI {it l:Addr}{i:Nat}{items:Array Value}{Q:Value->Shared->Prop}(hh:A.handled=none)(hit:s.heap.IsTupleIter it l i)(hl:s.heap.IsTuple l items)(hx:items[i]?=none)
  (hE:∀h' e,Heap.ExtBut it s.heap h'->(∃o,h'.get? e=some o/\o.cls=.type "StopIteration")->E (.ref e) { s with heap:=h' }):wpAny (model prog w) A (Builtin.SmallTypes.nextOf (.ref it)) Q E s:=by
 obtain⟨o,ho,hc,hd⟩:=id hit;obtain⟨ol,OX,_,nl,Lw⟩:=hl;unfold Builtin.SmallTypes.nextOf;refine aq (nr (name:=Str.ofString "__next__") hit.typeIs vQ (j7 vQ hit.typeIs F.entry_tuple_iterator_next ?_ (F.args_tuple_iterator_next_1 _)));show wpAny _ _ (field (.ref it) 0 >>= λv=>_) _ _ s;refine aq (ir ho hd (x:=.ref l) (by rfl) ?_);show wpAny _ _ (if (Value.ref l == .none)=true then _ else _) _ _ s;rw [aw (by exact c_)];show wpAny _ _ (field (.ref it) 1 >>= λv=>_) _ _ s;refine aq (ir ho hd (x:=.int i 0) (by rfl) ?_);show wpAny _ _ (seqItems? (.ref l) >>= λv=>_) _ _ s;refine aq (mr OX Lw ?_);simp only [gJ,hx];refine aq (il (aq (qY ho hd (by simp) (aq ?_))));simp only [newExc,newTuple];refine aq (gI ?_ (by size_fits));refine aq (m:=firstArgMember _ _) (wpAny_of_eq (a:=Value.none) (by first | rfl | (simp only [firstArgMember];rfl)) ?_)
 refine gI ?_ (by size_fits);simp only [raiseNew];refine aq (wpAny_handled ?_)
 first | rw [show A.in1.handled=none from hh] | rw [hh]
 refine aq (aH (wpAny_throw (hE _ _ (((mD ..).extBut.push _).push _) ⟨_,cA _ rfl,rfl⟩)))
def Ee {e it l:Addr}{i:Nat}{items:Array Value}{old:Value}{Q:Option Value->Shared->Prop}(hh:A.handled=none)(he:IsEnum s.heap e it i old)(hit:s.heap.IsTupleIter it l i)(hl:s.heap.IsTuple l items)(hx:items[i]?=none)
  (hQ:∀h',Heap.ExtBut it s.heap h'->Q none { s with heap:=h' }):wpAny (model prog w) A (pyNext (.ref e)) Q E s:=by
 have hT:s.TypeIs (.ref e) "enumerate" := ⟨_,he,rfl⟩;unfold pyNext;refine aq (oO (nr (name:=Str.ofString "__next__") hT vH (j7 vH hT F.entry_enumerate_next ?_ (F.args_enumerate_next_1 _))));show wpAny _ _ (field (.ref e) 2 >>= λv=>_) _ _ _;refine aq (ir he rfl (x:=.ref it) (by rfl) (aq (sI hh hit hl hx λh' x AU Wt=>?_)));obtain⟨o,ho,hc⟩:=Wt;exact aq (rh (T := "StopIteration") (b:=true) ⟨o,ho,hc⟩ isSubtype_stop (aH (hQ _ AU)))
end
def yw (l:Addr)(items:Array Value) (n:Nat)(Bc:Option Addr)(sl:Array (Option Value)) :
  Meets (Builtin.«enumerate.__new__» ⟨[.type "enumerate",.ref l],[]⟩) (λ_ R s=>s.heap.get? l=some { cls:=.type "tuple",dict:=Bc,data:=.seq items n,slots:=sl } /\
   R (.ok (.ret (.ref (s.heap.push { cls:=.type "tuple_iterator",data:=.fields #[.ref l,.int 0 0] }).objs.size)))
    { s with heap:=(s.heap.push { cls:=.type "tuple_iterator",data:=.fields #[.ref l,.int 0 0] }).push { cls:=.type "enumerate",data:=.fields #[.none,.bool false,.ref s.heap.objs.size,rawInt 0,.none,.none] } }) :=
 .of_wp λprog w A R s h=>by
  obtain⟨hp,g,d,tk,os⟩:=s;obtain⟨hl,h⟩:=h;have Q_:=sub_enumerate;have hT:Heap.IsTuple (Shared.heap ⟨hp,g,d,tk,os⟩) l items:=⟨_,hl,rfl,n,rfl⟩
  wp_walk using vN hl
  refine wpAny_stack_any λst=>aH ?_;split
  .rename_i c _ _ _ _ _
   cases (c == Value.type "enumerate")
   .wp_walk using vN hl,vx hT;exact⟨_,rfl,h⟩
   wp_walk using vN hl,vx hT;exact⟨_,rfl,h⟩
  wp_walk using vN hl,vx hT;exact⟨_,rfl,h⟩
section
variable {prog:Program}{w:World}{A:Around}{E:Value->Shared->Prop}{s:Shared}
def Bg {l:Addr}{items:Array Value}{Q:Value->Shared->Prop}(hL:s.heap.IsTuple l items)
  (h:∀h',IsEnum h' (s.heap.objs.size+1) s.heap.objs.size 0 .none->h'.IsTupleIter s.heap.objs.size l 0->(∀b o,s.heap.get? b=some o->h'.get? b=some o)->Q (.ref (s.heap.objs.size+1)) { s with heap:=h' }) :
  wpAny (model prog w) A (call (.type "enumerate") [.ref l]) Q E s:=by
 obtain⟨⟨c,Bc,dt,sl⟩,hl,hc,n,hd⟩:=hL;replace hc:c=.type "tuple" := hc;replace hd:dt=.seq items n:=hd;subst hc hd;refine callType_new F.called_enumerate nofun (F.typeCall_enumerate_1 _) (F.newCall_enumerate_1 _) (λobj=>F.args_object_init_2 obj _) F.entry_enumerate_new (yw l items n Bc sl) ⟨hl,?_⟩;have hz:(s.heap.push { cls:=.type "tuple_iterator",data:=.fields #[.ref l,.int 0 0] }).objs.size=s.heap.objs.size+1:=j6 ..;show _/\_;rw [hz];have he:IsEnum ((s.heap.push { cls:=.type "tuple_iterator",data:=.fields #[.ref l,.int 0 0] }).push { cls:=.type "enumerate",data:=.fields #[.none,.bool false,.ref s.heap.objs.size,rawInt 0,.none,.none] }) (s.heap.objs.size+1) s.heap.objs.size 0 .none:=by
  have:=cA (s.heap.push { cls:=.type "tuple_iterator",data:=.fields #[.ref l,.int 0 0] }) (o:={ cls:=.type "enumerate",data:=.fields #[.none,.bool false,.ref s.heap.objs.size,rawInt 0,.none,.none] }) rfl;rw [hz] at this;exact this
 exact⟨⟨_,he,rfl⟩,h _ he ⟨_,bH _ (cA _ rfl),rfl,rfl⟩ λb o x=>bH _ (bH _ x)⟩
end
def tX (K:a8)(a:Addr):It :=
 ⟨λi H=>∃xs x,aR K H a xs/\xs[i]?=some x,λi H x H'=>∃t y,x=.ref t/\H t=none/\H'=upd H t (.tup [.int (i:Int),y])/\∀xs,aR K H a xs->xs[i]?=some y,λi H=>∃xs,aR K H a xs/\xs.length<=i⟩
def zN {P:Program}{w:World}{K:a8}{elts:List Expr}{k:Nat}{vT:Pos}(a e it:Addr)(Rw:e≠it) :
  Turn P w K (.Tuple elts k vT) (tX K a) [e,it] e (λi h=>(∃old,IsEnum h e it i old)/\h.IsTupleIter it a i) where
 mem:=by simp
 obj:=λi h st b hb=>by
  obtain⟨⟨old,he⟩,o,e1,c,d⟩:=st;rcases bY.mp hb with rfl | hb
  .exact⟨_,he,λv z=>by cases z⟩
  obtain rfl:b=it:=by simpa using hb
  exact⟨o,e1,λv z=>by rw [d] at z;cases z⟩
 keep:=λi h h' st k=>⟨⟨st.1.choose,k e (by simp) _ st.1.choose_spec⟩,st.2.at λo q=>k it (by simp) o q⟩
 item:=by
  intro X hP hw hK hc i ag s σ H E I hf st hg;subst hP hw hK;obtain⟨xs,x,hq,hx⟩:=hg;obtain⟨aN,rv,p,hz⟩:=I.tuple hq;obtain⟨u,hu,ru⟩:=rv.get hx;obtain⟨⟨old,he⟩,hit⟩:=st;refine A8 he hit (show s.heap.IsTuple a aN.toArray from p) (x:=u) (by simpa using hu) Rw λh1 ho NI hT hk=>?_;refine⟨_,rfl,wpAny_letOwnedTupleGo_enum ho λh2 Rx sb=>?_⟩;have ne:s.heap.objs.size≠e:=j4 (bu he);have kk:∀b o,b≠e->b≠it->s.heap.get? b=some o->h2.get? b=some o:=λb o n1 n2 q=>(sb.2 b n1).trans (hk b o n1 n2 q);have T2:h2.get? s.heap.objs.size=some { cls:=.type "tuple",data:=.seq #[.int i s.toks,u] }:=(sb.2 _ ne).trans hT;have fe:=hf e (by simp);have fi:=hf it (by simp);have fT:H s.heap.objs.size=none:=I.bZ.fresh (aD _);have tr:∀b v,H b=some v->b≠e/\b≠it:=λb v q=>⟨λz=>(by rw [z,fe.1] at q;cases q),λz=>(by rw [z,fi.1] at q;cases q)⟩;have nc:∀b,b∉[e,it]->b≠e/\b≠it:=λb z=>⟨λq=>z (by simp [q]),λq=>z (by simp [q])⟩;have lt:∀b o,s.heap.get? b=some o->b≠s.heap.objs.size:=λb o q=>bE (bu q);have I2:Inv X ag σ (upd H s.heap.objs.size (.tup [.int (i:Int),x])) { s with heap:=h2,toks:=s.toks+1 }:=by
   refine I.call (g':=s.gens) (t':=s.toks+1) (d':=s.drawn) (ch:=[e,it]) ⟨λb o q _ _ c=>kk b o (nc b c).1 (nc b c).2 q,λb o q _ _ c=>⟨o.slots,kk b o (nc b c).1 (nc b c).2 q⟩,
    λb o q n _=>by rw [ai (lt b o q)];exact n,λb o q c=>⟨o,kk b o (nc b c).1 (nc b c).2 q⟩,λb ys q=>by rw [ai (az q fT)];exact q,λb o v q=>by rw [ai (az q fT)];exact q,
    λb ps q=>⟨#[],by rw [ai (az q fT),q];simp⟩⟩ (λb v q=>?_) I.bare (λb hb=>?_)
   .by_cases hb:b=s.heap.objs.size
    .subst hb;rw [ae] at q;cases q;exact⟨by show 2<=sizeLine;decide,[.int i s.toks,u],.cons ⟨_,rfl⟩ (.cons ru .nil),_,T2,rfl,_,rfl⟩
    rw [ai hb] at q;refine(I.bZ b v q).kX (λc o mS z=>?_) (λc q'=>by rw [ai (az q' fT)];exact q') λc ys q'=>by rw [ai (az q' fT)];exact q'
    rcases mS with rfl | mS
    .exact kk c o (tr c _ q).1 (tr c _ q).2 z
    exact kk c o (tr c _ mS).1 (tr c _ mS).2 z
   rcases bY.mp hb with rfl | hb
   .exact⟨fe.2.2.2.1,fe.2.1,fe.2.2.2.2.1,fe.2.2.2.2.2⟩
   obtain rfl:b=it:=by simpa using hb
   exact⟨fi.2.2.2.1,fi.2.1,fi.2.2.2.2.1,fi.2.2.2.2.2⟩
  refine⟨.ref s.heap.objs.size,_,I2,rfl,⟨_,x,rfl,fT,rfl,λys hy=>by rw [I.uA hy hq];exact hx⟩,⟨⟨_,Rx⟩,NI.at λo q=>(sb.2 it Rw.symm).trans q⟩,λb hb=>?_⟩;have IV:H b=none/\∃o,s.heap.get? b=some o:=by
   rcases bY.mp hb with rfl | hb
   .exact⟨fe.1,_,he⟩
   obtain rfl:b=it:=by simpa using hb
   obtain⟨o,q,_⟩:=hit;exact⟨fi.1,o,q⟩
  obtain⟨n,o,q⟩:=IV;rw [ai (lt b o q)];exact n
 done:=by
  intro X hP hw hK hc i ag s σ H E I hf st hg;subst hP hw hK;obtain⟨xs,hq,hx⟩:=hg;obtain⟨aN,rv,p,hz⟩:=I.tuple hq;obtain⟨⟨old,he⟩,hit⟩:=st;obtain⟨f0,f1,f2,f3,f4,f5⟩:=hf it (by simp);have hl:=rv.length;exact Ee (I.ok.hd hc) he hit (show s.heap.IsTuple a aN.toArray from p) (by simp;omega) λh' eb=>⟨rfl,I.turned (t':=s.toks) (λb o hb e=>eb b o hb e) f0 f1 f3 f4 f5⟩
 self:=λ_ _ _ _ _ st h=>wpAny_pyIter_enum st.1.choose_spec h
def Nw (K:a8)(ta:TA):TI:=λσ H R=>ta σ H λvs H1=>∃a xs,vs=[.ref a]/\aR K H1 a xs/\R (tX K a) H1
def nZ {X:Cx}{elts:List Expr}{k:Nat}{vT:Pos}{l:Expr}{ta:TA}{p pos:Pos}(hg:Gl X "enumerate")(hm:X.mg "enumerate"=none)(ha:PA X [l] ta)(hs:starEach [l] X.env=[(false,eval l X.env)]:=by rfl) :
  PI X (.Tuple elts k vT) (.Call (.Name "enumerate" p) [l] [] pos) (Nw X.K ta):=by
 intro ag s σ H R I h;refine Call_ (iQ I hg hm vc (xD (cX (ha pos ag s σ H _ I h) λus s1 bx=>?_) hs rfl));obtain⟨vs,H1,I1,r1,q1⟩:=bx;obtain⟨a,xs,e,hq,q⟩:=q1;subst e;obtain⟨u,rfl,rx⟩:=r1.one;cases rx;obtain⟨aN,rv,pl,hz⟩:=I1.tuple hq;refine Bg (show s1.heap.IsTuple a aN.toArray from pl) λh1 he hit hk=>wpAny_pyIter_enum he ?_;refine⟨s1.heap.objs.size+1,[s1.heap.objs.size+1,s1.heap.objs.size],_,_,H1,rfl,I1.kept (t':=s1.toks) λb o e=>hk b o e,zN a _ _ (j4 (j8 _)),⟨⟨_,he⟩,hit⟩,λb hb=>?_,q⟩;rcases bY.mp hb with rfl | hb
 .exact I1.w_ (i7 _) (I1.bZ.fresh (i7 _))
 obtain rfl:b=s1.heap.objs.size:=by simpa using hb
 exact I1.w_ (aD _) (I1.bZ.fresh (aD _))
open PySem PySem.Spec PyProof.Rows PySem.W
def kj (c':Addr)(qual:Str):HO:=.ext λh=>h.CodeRec (.ref c') qual
def pH (f:Addr)(o:Obj):HO:=.ext λh=>h.get? f=some o
def yX {P:Program}{w:World}{H:Hp}{h:Heap}{c':Addr}{qual:Str}(hr:h.CodeRec (.ref c') qual):cM P w H h c' (kj c' qual):=by
 obtain⟨c2,oc,vs,t,e,zx,hd,hv⟩:=id hr;cases e;exact⟨hr,⟨oc,zx⟩,λh1 h2 ⟨c3,oc3,vs3,t3,e3,WR,jf,OT⟩ k=>by cases e3;exact⟨_,oc3,vs3,t3,rfl,k _ WR,jf,OT⟩⟩
def qO {P:Program}{w:World}{H:Hp}{h:Heap}{f:Addr}{o:Obj}(e:h.get? f=some o):cM P w H h f (pH f o):=⟨e,⟨o,e⟩,λ_ _ q k=>k _ q⟩
def Tab (T:Addr)(pos:Pos)(qual:Str)(H:Hp):Prop :=
 ∃ps,H T=some (.t_ ps)/\TriplesOk ps.toList/\(codeAmong pos ps.toList=none\/∃c',codeAmong pos ps.toList=some (.ref c')/\H c'=some (kj c' qual))
def cY (T:Addr)(H H':Hp):Prop:=∀b o,b≠T->H b=some o->H' b=some o
def tY (mg:Str->Option Value)(base:Heap):Prop :=
 ∃bm o,mg "__builtins__"=some (.ref bm)/\bm≠builtinsNs/\bm≠mainGlobals/\base.get? bm=some o/\o.cls=.type "module" /\ o.dict=some builtinsNs/\o.data=.plain
theorem jE {a b:Int}{ta tb:Tok}{c:Value}:∀l:List Value,TriplesOk l->TriplesOk (l++[.int a ta,.int b tb,c])
 | [],_=>trivial
 | [x],h=>by cases x <;> exact h.elim
 | [x,y],h=>by cases x <;> cases y <;> exact h.elim
 | x::y::z::r,h=>by
  cases x with
  | int i ti =>
   cases y with
   | int j tj=>exact jE r h
   | _=>exact h.elim
  | _=>exact h.elim
section
variable {X:Cx}{params:Arguments}{body:Expr}{scope:Scope}{pos:Pos}{c T:Addr}
abbrev mM (X:Cx)(params:Arguments)(body:Expr)(scope:Scope)(c':Addr)(gG:Value):Obj:=kla_obj "<lambda>" (X.env.qual ++ "<lambda>") params body scope [] ((X.mg "__name__").getD .none) c' gG
def U4 (X:Cx)(params:Arguments)(body:Expr)(scope:Scope)(pos:Pos)(T:Addr):TE:=λσ H Q=>Tab T pos (X.env.qual ++ "<lambda>") H /\
 ∀f c' gG H',cY T H H'->Tab T pos (X.env.qual ++ "<lambda>") H'->H f=none->H' f=some (pH f (mM X params body scope c' gG))->H' c'=some (kj c' (X.env.qual ++ "<lambda>"))->Q (.ref f) H'
def Gf (sS:X.env.code=.ref c)(hC:codeHdIn X.K c T=true)(hB:tY X.mg X.base)(om:∀y∈scope.names,y.2≠.free)(Hy:defaultsOf params X.env=([],[]):=by rfl):PE X (.Lambda params body scope pos) (U4 X params body scope pos T):=by
 intro ag s σ H Q I h;obtain⟨⟨ps,hT,ht,HG⟩,q⟩:=h;refine kla_eval Hy ?_;have NU:s.heap.get? T=some (tabObj ps):=(show cM X.prog X.w H s.heap T (.t_ ps) from I.bZ T _ hT);have hg:=I.mod.glob.keeps I.bk;have C:=codeHd_of_K I.wX hC;obtain⟨bm,ob,b1,b2,b3,b4,b5,b6,b7⟩:=hB;have Yq:=I.bk _ _ b4;have VS:bm≠T:=λz=>by
  have:=(I.bs _ _ b4).2;rw [z,hT] at this;cases this
 have VP:mainGlobals≠T:=λz=>by
  obtain⟨o,es,ep,e,d,_⟩:=hg;rw [z,NU] at e;cases e;cases d
 have RN:s.heap.BuiltinsAt X.mg T:=⟨bm,ob,b1,b2,b3,VS,Yq,b5,b6,b7⟩;have IH:∀b v,H b=some v->b < s.heap.objs.size:=λb v e=>I.bZ.lt e;rcases HG with Rk | ⟨c',hf,mS⟩
 .refine kla_makeFunction (closureFor_none om) I.ok.glob hg sS C NU ht Rk VP RN λc' gG h' tk hx NL je Hn Q6=>?_;have hcr:∃oc,h'.get? c'=some oc:=by
   obtain⟨c2,oc,vs,t,e,zx,_⟩:=Hn;cases e;exact⟨oc,zx⟩
  have sQ:h'.objs.size > s.heap.objs.size:=rC NL je;have keep:∀b o,b≠T->s.heap.get? b=some o->(h'.push (mM X params body scope c' gG)).get? b=some o:=λb o n e=>bH _ (hx b o n e)
  let H':Hp:=upd (upd (upd H T (.t_ (ps++#[rawInt pos.line,rawInt pos.col,.ref c']))) c' (kj c' (X.env.qual ++ "<lambda>"))) h'.objs.size (pH h'.objs.size (mM X params body scope c' gG))
  have AE:∀b v,H b=some v->b≠c'/\b≠h'.objs.size:=λb v e=>⟨bE (gu (IH b v e) NL),bE (jB (IH b v e) sQ)⟩;have VR:c'≠h'.objs.size:=bE je;have QB:=AE T _ hT;have eT:H' T=some (.t_ (ps++#[rawInt pos.line,rawInt pos.col,.ref c'])):=by
   show upd (upd (upd H T _) c' _) h'.objs.size _ T=_;rw [ai QB.2,ai QB.1,ae]
  have ec:H' c'=some (kj c' (X.env.qual ++ "<lambda>")):=by
   show upd (upd (upd H T _) c' _) h'.objs.size _ c'=_;rw [ai VR,ae]
  have ef:H' h'.objs.size=some (pH h'.objs.size (mM X params body scope c' gG)):=ae;have eo:∀b,b≠T->b≠c'->b≠h'.objs.size->H' b=H b:=λb n1 n2 n3=>by
   show upd (upd (upd H T _) c' _) h'.objs.size _ b=_;rw [ai n3,ai n2,ai n1]
  have sT:cY T H H':=λb o n e=>by rw [eo b n (AE b o e).1 (AE b o e).2];exact e
  have I2:Inv X ag σ H' { s with heap:=h'.push (mM X params body scope c' gG),toks:=tk }:=by
   refine I.call (g':=s.gens) (t':=tk) (d':=s.drawn) (ch:=[]) ⟨λb o e n _ _=>keep b o (λz=>by rw [z,hT] at n;cases n) e,λb o e n _ _=>⟨o.slots,keep b o (λz=>by rw [z,hT] at n;cases n) e⟩,λb o e n _=>?_,λb o e _=>?_,λb xs e=>?_,λb o u e=>?_,λb ER e=>?_⟩ (λb v e=>?_) I.bare (λb hb=>nomatch hb)
   .have lb:=bu e;rw [eo b (λz=>by rw [z,hT] at n;cases n) (bE (gu lb NL)) (bE (jB lb sQ))];exact n
   .by_cases z:b=T
    .exact⟨_,by rw [z];exact bH _ Q6⟩
    exact⟨o,keep b o z e⟩
   .exact sT b _ (λz=>by rw [z,hT] at e;cases e) e
   .exact sT b _ (λz=>by rw [z,hT] at e;cases e) e
   .by_cases z:b=T
    .subst z;rw [hT] at e;cases e;exact⟨_,eT⟩
    exact⟨#[],by rw [Array.append_empty];exact sT b _ z e⟩
   by_cases z1:b=h'.objs.size
   .subst z1;rw [ef] at e;cases e;exact qO (cA _ rfl)
   by_cases z2:b=c'
   .subst z2;rw [ec] at e;cases e;refine yX ?_;obtain⟨c2,oc,vs,t,e',zx,hd,hv⟩:=Hn;cases e';exact⟨_,oc,vs,t,rfl,bH _ zx,hd,hv⟩
   by_cases z3:b=T
   .subst z3;rw [eT] at e;cases e;exact bH _ Q6
   rw [eo b z3 z2 z1] at e;refine(I.bZ b v e).kX (λd o DR e'=>?_) (λd e'=>sT d _ (λz=>by rw [z,hT] at e';cases e') e') λd ys e'=>sT d _ (λz=>by rw [z,hT] at e';cases e') e';rcases DR with rfl | DR
   .exact keep d o z3 e'
   exact keep d o (λz=>by rw [z,hT] at DR;cases DR) e'
  have fresh:H h'.objs.size=none:=I.bZ.fresh (i8 sQ);exact⟨.ref h'.objs.size,H',I2,rfl,q _ c' gG H' sT ⟨_,eT,by rw [vG];exact jE _ ht,.inr ⟨c',by rw [vG];exact codeAmong_snoc _ ht Rk,ec⟩⟩ fresh ef ec⟩
 refine kla_makeFunctionHit (closureFor_none om) I.ok.glob hg sS C NU ht hf RN λgG h' tk hk hsz=>?_;have keep:∀b o,s.heap.get? b=some o->(h'.push (mM X params body scope c' gG)).get? b=some o:=λb o e=>bH _ (hk b o e);have fresh:H h'.objs.size=none:=I.bZ.fresh hsz;refine⟨.ref h'.objs.size,_,I.laid (a:=h'.objs.size) (o:=pH h'.objs.size (mM X params body scope c' gG)) (t':=tk) keep hsz (qO (cA _ rfl)),rfl,?_⟩;refine q _ c' gG _ (λb o _ e=>by rw [ai (az e fresh)];exact e) ⟨ps,by rw [ai (az hT fresh)];exact hT,ht,.inr ⟨c',hf,by rw [ai (az mS fresh)];exact mS⟩⟩ fresh ae (by rw [ai (az mS fresh)];exact mS)
end
section
variable {P:Program}{w:World}{K:Frag}{mg:Str->Option Value}{base:Heap}{f c':Addr}{q:Str}{params:Arguments}{body:Expr}{scope:Scope}{pm gG:Value}{N ps:List Str}{k:Nat}{te:TE}
def J3 (S:aI N ps scope)(oo:∀us:List Value,us.length=ps.length->bindArgs (kla_fn "<lambda>" q params body scope [] pm (.ref c') gG) ⟨us,[]⟩=pure (ps.zip us))
  (jt:∀(A:Around)(outer:List Env)(s:Shared)(H:Hp),PE (pS fY P w K mg base N q scope f (.ref c') A outer s H λ_ _ _=>False) body te)
  (A:Around)(outer:List Env)(s:Shared)(H:Hp)(us:List Value)(vs:List V)(Q:VK)(hr:fh (k+1) A)(e0:qG P w K mg base A outer s H)(hf:H f=some (pH f (kla_obj "<lambda>" q params body scope [] pm c' gG)))
  (hc:H c'=some (kj c' q))(rv:aY vs us)(hl:vs.length=ps.length)(h:te (start N vs) H Q):codeAny (model P w) A (.call (.ref f) ⟨us,[]⟩) (CR fY outer P w H s Q λ_ _ _=>False) s:=by
 obtain⟨ef,_⟩:=e0.bZ f _ hf;obtain⟨ec,_⟩:=e0.bZ c' _ hc;have lu:us.length=ps.length:=by rw [<-rv.length];exact hl
 have lim:s.heap.NoLimit:=e0.mod.nolimit.keeps λb o e=>(e0.bs b o e).1;have jq:∀y∈ps.zip us,scope.names.lookup y.1=some .local\/(scope.names.lookup y.1=some .cell/\((cellsFrom (s.heap.objs.size+1) scope.names []).lookup y.1).isSome=true):=λ⟨n,v⟩ hy=>by
  rcases S.par n (List.of_mem_zip hy).1 with z | z
  .exact .inl z
  exact .inr ⟨z,cellsFrom_some _ _ _ (.inl z)⟩
 refine kla_callFunE hr.depth ef rfl S.co S.gen rfl ec ?_;rw [oo us lu];refine aH (wpAny_newFunctionEnv_cells S.kind jq λenv he s1 x=>?_);subst he;refine⟨lim.keeps x.toInCall.keep,kla_codeExpr ?_⟩;have I:Inv (pS fY P w K mg base N q scope f (.ref c') A outer s H λ_ _ _=>False) [] (start N vs) H s1:=uS S hr.hd e0 hl rv x;refine dC (jt A outer s H [] s1 (start N vs) H _ I h) (λv s' bx=>?_) λe s' z=>z;obtain⟨y,H',J,r,z⟩:=bx;exact⟨y,H',J.os,J.bare,J.base,J.bZ,r,z⟩
end
section
variable {X:Cx}{i:Nat}{x:Str}{e:Expr}{es:List Expr}{t:TA}{p pos:Pos}{q:Str}{params:Arguments}{body:Expr}{scope:Scope}{N ps:List Str}{k:Nat}{te:TE}
def Fg (i:Nat)(q:Str)(params:Arguments)(body:Expr)(scope:Scope) (N ps:List Str)(t:TA)(te:TE):TE:=λσ H Q=>∃f pm c' gG,σ[i]?=some (some (.ref f)) /\
 t σ H λvs H1=>H1 f=some (pH f (kla_obj "<lambda>" q params body scope [] pm c' gG))/\H1 c'=some (kj c' q)/\vs.length=ps.length/\te (start N vs) H1 Q
def An (hN:X.N[i]?=some x)(hx:X.env.scope.names.lookup x=some .local)(S:aI N ps scope)(hr:fh (k+1) X.A)
  (oo:∀(pm gG:Value)(c':Addr)(us:List Value),us.length=ps.length->bindArgs (kla_fn "<lambda>" q params body scope [] pm (.ref c') gG) ⟨us,[]⟩=pure (ps.zip us))
  (jt:∀(f c':Addr)(A:Around)(outer:List Env)(s:Shared)(H:Hp),PE (pS fY X.prog X.w X.K X.mg X.base N q scope f (.ref c') A outer s H λ_ _ _=>False) body te)(ha:PA X (e::es) t)
  (DQ:(x == ("__debug__":Str))=false:=by decide)(he:starEach (e::es) X.env=(false,eval e X.env)::starEach es X.env:=by rfl)(uU:(backTo pos (starEach es X.env)).any (·.1)=false:=by rfl) :
  PE X (.Call (.Name x p) (e::es) [] pos) (Fg i q params body scope N ps t te):=by
 intro ag s σ H Q I h;obtain⟨f,pm,c',gG,hσ,h⟩:=h;obtain⟨m,hn,hl⟩:=I.loc;obtain⟨u,ru,lk⟩:=hl i x (.ref f) hN hσ (.inl hx);cases (show u=Value.ref f from ru);have hm:m x=some (.ref f):=by
  rcases lk with l | ⟨l,_⟩
  .exact l.2
  have l':X.env.scope.names.lookup x=some .cell\/X.env.scope.names.lookup x=some .free:=l;rw [hx] at l';rcases l' with l' | l' <;> cases l'
 refine nq (wpAny_Name (vF I.ok.kind hx hn hm ?_) DQ);refine callWith_def (o:=kla_obj "<lambda>" q params body scope [] pm c' gG) rfl (cX (ha pos ag s σ H _ I h) λus s1 bx=>?_) he;obtain⟨vs,H1,I1,r,z1,z2,z3,z4⟩:=bx;obtain⟨ef,_⟩:=I1.bZ f _ z1;refine⟨ef,kO (jA (J3 (k:=k) S (λus hl=>oo pm gG c' us hl) (jt f c') X.A X.stack s1 H1 us vs Q hr I1.Oc z1 z2 r z3 z4) λr' s' z=>?_)⟩;cases r' with
 | error e=>exact z.elim
 | ok fl =>
  cases fl with
  | ret u=>exact I1.after z
  | next=>exact z.elim
  | brk=>exact z.elim
  | cont=>exact z.elim
end
def Iw (ts:List Addr)(H:Hp):Prop:=∀b,H b=none\/(∃o xs,H b=some (.kx o (.lst xs)))\/(b∈ts/\H b=some (.t_ #[]))
def DC {P:Program}{w:World}{K:Frag}{mg mb:Str->Option Value}{CX:zE}{k:Nat}{fa a:Addr}{fd:FuncData}{x:Str}{sp:Sp}{s₁:Shared}{vs:List Value}{ns:List Int}{ts:List Addr}
  (KX:K.In s₁.heap)(xx:s₁.heap.Ns mainGlobals mg)(hb:s₁.heap.Ns builtinsNs mb)(NS:∀x:Str,x ≠ "__name__" -> mb x=bootBuiltins x)(NH:s₁.heap.NoLimit)
  (hbm:∃bm ob,mg "__builtins__"=some (.ref bm)/\bm≠builtinsNs/\s₁.heap.get? bm=some ob/\ob.cls=.type "module" /\ ob.dict=some builtinsNs/\ob.data=.plain)(hg:s₁.gens=#[])
  (Nx:∀T∈ts,s₁.heap.get? T=some (tabObj #[])/\K.lookup T=none/\∃c,codeHdIn K c T=true)
  (ha:s₁.heap.get? a=some { cls:=.type "list",data:=.seq vs.toArray })(hi:IntsAre vs ns)(hl:ns.length<=sizeLine)(hr:fh k callerA)
  (F:∀base:Heap,K.In base->base.Ns mainGlobals mg->tY mg base->bR P w K mg base CX k fa fd [x] sp)(oo:∀(s:Shared)(u:Value),BindsTo s fd ⟨[u],[]⟩ [(x,u)])
  (zw:∀H:Hp,Iw ts H->(∀T∈ts,H T=some (.t_ #[]))->aG K H a (ns.map V.int)->sp [.ref a] H (λv _=>v=.bl true) λ_ _ _=>False)
  (NX:∀H e s',CX [] H s₁ (λ_ _ _=>False) e s'->False) :
  codeAny (model P w) callerA (.call (.ref fa) ⟨[.ref a],[]⟩) (λr s'=>r=.ok (.ret (.bool true))/\OldK s₁.heap s'.heap/\s'.os=s₁.os/\AllBare s'.gens) s₁:=by
 have rv:=ph hi;have Nh:=hi.length;have core:∀H:Hp,Iw ts H->(∀T∈ts,H T=some (.t_ #[]))->aG K H a (ns.map V.int)->mj P w H s₁.heap->(∀b,H b≠none->b=a\/b∈ts)->(H a≠none->K.lookup a=none) ->
   codeAny (model P w) callerA (.call (.ref fa) ⟨[.ref a],[]⟩) (λr s'=>r=.ok (.ret (.bool true))/\OldK s₁.heap s'.heap/\s'.os=s₁.os/\AllBare s'.gens) s₁:=by
  intro H hO hT hS bZ hA hK;have lQ:∀{b:Addr}{o:Obj},s₁.heap.get? b=some o->H b=none->(mR s₁.heap H).get? b=some o:=λe n=>yB e n;have off:∀{b:Addr}{o:Obj},s₁.heap.get? b=some o->(∀aN n,o.data≠.seq aN n)->(∀fs,o.data≠.fields fs)->H b=none:=λ{b o} e d1 d2=>by
   cases q:H b with
   | none=>rfl
   | some u =>
    rcases hA b (by rw [q];simp) with e' | e'
    .subst e';rw [ha] at e;cases e;exact(d1 _ _ rfl).elim
    rw [(Nx b e').1] at e;cases e;exact(d2 _ rfl).elim
  have JV:∀{b:Addr}{m:Str->Option Value},s₁.heap.Ns b m->(mR s₁.heap H).Ns b m:=λ{b m} ⟨o,es,ep,e,d,r⟩=>⟨o,es,ep,lQ e (off e (λ_ _ z=>by rw [d] at z;cases z) λ_ z=>by rw [d] at z;cases z),d,r⟩;have RK:K.In (mR s₁.heap H):=λb o e=>lQ (KX b o e) (by
   cases q:H b with
   | none=>rfl
   | some u =>
    rcases hA b (by rw [q];simp) with e' | e'
    .subst e';rw [hK (by rw [q];simp)] at e;cases e
    rw [(Nx b e').2.1] at e;cases e)
  have hM:Mod K mg (mR s₁.heap H):=⟨RK,JV xx,⟨mb,JV hb,NS⟩,let ⟨mc,h1,h2⟩:=NH;⟨mc,JV h1,h2⟩⟩;have RM:tY mg (mR s₁.heap H):=by
   obtain⟨bm,ob,b1,b2,b3,b4,b5,b6⟩:=hbm;refine⟨bm,ob,b1,b2,λz=>?_,lQ b3 (off b3 (λ_ _ z=>by rw [b6] at z;cases z) λ_ z=>by rw [b6] at z;cases z),b4,b5,b6⟩;obtain⟨o,es,ep,e,d,_⟩:=xx;rw [<-z,b3] at e;cases e;rw [b6] at d;cases d
  have e0:qG P w K mg (mR s₁.heap H) callerA [] s₁ H:=⟨rfl,hM,λb o e=>Cf e,Nat.le_of_eq (uV _ _),trivial,λb hb=>absurd (show b∈([]:List Addr) from hb) (by simp),bZ,.of_eq hg⟩;refine jA ((F _ RK (JV xx) RM).run callerA [] s₁ H ⟨[.ref a],[]⟩ [.ref a] [.ref a] _ _ hr e0 (oo s₁ (.ref a)) (.cons rfl .nil) (zw H hO hT hS)) λr s' h=>?_;cases r with
  | error e=>exact(NX H e s' h).elim
  | ok fl =>
   cases fl with
   | next=>exact False.elim h
   | brk=>exact False.elim h
   | cont=>exact False.elim h
   | ret u =>
    obtain⟨v,H',os,bare,un,Kd,r',q⟩:=h;have q':v=.bl true:=q;subst q';obtain rfl:u=Value.bool true:=r';have each:∀b o,s₁.heap.get? b=some o->asItWas s₁.heap s'.heap b o/\∃o',s'.heap.get? b=some o':=λb o e=>by
     cases q:H b with
     | none =>
      have z:=un.keep b o e q (by intro z;exact absurd (show b∈([]:List Addr) from z) (by simp)) (by simp);exact⟨.inl z,o,z⟩
     | some u =>
      rcases hO b with z | ⟨ob,xs,z⟩ | ⟨IV,z⟩
      .rw [q] at z;cases z
      .have z2:=un.mT b ob _ z;obtain⟨e1,_⟩:=bZ b _ z;obtain⟨e2,_⟩:=Kd b _ z2;rw [e] at e1;cases e1;exact⟨.inl e2,_,e2⟩
      obtain⟨more,z2⟩:=un.nH b _ z;have e2:s'.heap.get? b=some (tabObj (#[]++more)):=Kd b _ z2;rw [(Nx b IV).1] at e;cases e;obtain⟨c,hc⟩:=(Nx b IV).2.2;obtain⟨oc,Mh,file,tf,flags,tg,inF,text,tt,d1,d2,d3,d4,_⟩:=codeHd_of_K KX hc;exact⟨.inr (.inl ⟨⟨c,oc,Mh,d1,d2,d3,d4⟩,rfl,#[],more,rfl,e2⟩),_,e2⟩
    exact⟨rfl,⟨λb o e=>(each b o e).1,λb o e=>(each b o e).2⟩,os,bare⟩
 have na:a∉ts:=λz=>by
  have:=(Nx a z).1;rw [ha] at this;cases this
 cases hk:K.lookup a with
 | some o =>
  have e:=KX a o hk;rw [ha] at e;cases e;refine core (λb=>if b∈ts then some (.t_ #[]) else none) (λb=>?_) (λT h=>ax h) (.inr ⟨_,vs.toArray,_,hk,rfl,rfl,rfl,by rw [bO,Nh];exact hl,by simpa using rv⟩) (λb u z=>?_) (λb z=>?_) λz=>absurd (aw na) z
  .by_cases h:b∈ts
   .exact .inr (.inr ⟨h,ax h⟩)
   exact .inl (aw h)
  .by_cases h:b∈ts
   .have z':=(ax h).symm.trans z;cases z';exact(Nx b h).1
   have z':=(aw h).symm.trans z;cases z'
  by_cases h:b∈ts
  .exact .inr h
  exact absurd (aw h) z
 | none =>
  refine core (λb=>if b=a then some (.kx { cls:=.type "list",data:=.seq vs.toArray } (.lst (ns.map V.int))) else if b∈ts then some (.t_ #[]) else none) (λb=>?_) (λT h=>?_) (.inl (.inr ⟨{ cls:=.type "list",data:=.seq vs.toArray },ax rfl⟩)) (λb u z=>?_) (λb z=>?_) λ_=>hk
  .by_cases hb:b=a
   .exact .inr (.inl ⟨_,_,ax hb⟩)
   by_cases h:b∈ts
   .exact .inr (.inr ⟨h,(aw hb).trans (ax h)⟩)
   exact .inl ((aw hb).trans (aw h))
  .exact(aw (λz:T=a=>na (z ▸ h))).trans (ax h)
  .by_cases hb:b=a
   .have z':=(ax hb).symm.trans z;cases z';subst hb;exact⟨ha,by rw [av];exact hl,vs,_,rv,ha⟩
   by_cases h:b∈ts
   .have z':=((aw hb).trans (ax h)).symm.trans z;cases z';exact(Nx b h).1
   have z':=((aw hb).trans (aw h)).symm.trans z;cases z'
  by_cases hb:b=a
  .exact .inl hb
  by_cases h:b∈ts
  .exact .inr h
  exact absurd ((aw hb).trans (aw h)) z
def Fd {l:OpenLaw}{n k:Nat}{q:Program}{loose:List Str}{XP:(Str->Option Value)->Heap->Prop}{YP:World->Heap->Prop}{d:DefRec}{K:Params->Frag}{CX:World->zE}{sp:World->Sp}{x:Str}{ts:List Addr}
  (hn:l.most=some n)(Hs:n<=sizeLine)(NO:d.params.defaults=[])(hr:fh k callerA)
  (hY:∀(w:World)(h:Heap),YP w h->(K w.params).In h/\∀T∈ts,h.get? T=some (tabObj #[]))
  (hK:∀w:World,∀T∈ts,(K w.params).lookup T=none/\∃c,codeHdIn (K w.params) c T=true)
  (F:∀(w:World)(mg:Str->Option Value)(fa:Addr)(h:Heap),(K w.params).In h->h.Ns mainGlobals mg->mg d.name=some (.ref fa) ->
   ∃fd:FuncData,(∀(s:Shared)(u:Value),BindsTo s fd ⟨[u],[]⟩ [(x,u)]) /\
    ∀base:Heap,(K w.params).In base->base.Ns mainGlobals mg->tY mg base->bR l.prog w (K w.params) mg base (CX w) k fa fd [x] (sp w))
  (zw:∀(w:World)(H:Hp)(a:Addr)(ns:List Int),ns.length<=n->Iw ts H->(∀T∈ts,H T=some (.t_ #[]))->aG (K w.params) H a (ns.map V.int)->sp w [.ref a] H (λv _=>v=.bl true) λ_ _ _=>False)
  (NX:∀(w:World)(H:Hp)(s:Shared)(e:Value)(s':Shared),CX w [] H s (λ_ _ _=>False) e s'->False) :
  WalkO q loose XP YP l.row.toRowW d [] (λf vs=>PySem.call f vs):=by
 refine Ji.qr hn NO λw s₀ s₁ mg mb fa o pm cd doc a vs ns G Y ho hd w6 NF Ho hints br hg=>?_;obtain⟨KX,TX⟩:=hY w _ Y;obtain⟨fd,hb,hF⟩:=F w mg fa _ KX G.T.g NF;exact DC KX G.T.g G.T.b G.T.builtins G.T.nolimit G.T.bmain hg (λT hT=>⟨TX T hT,hK w T hT⟩) Ho hints (dI br Hs) hr hF hb (λH hO hT hS=>zw w H a ns br hO hT hS) λH e s'=>NX w H s₁ e s'
def a9 {X:Cx}{scope:Scope}{js:List (Nat×Str)}(h:(js.all λp=>X.N[p.1]? == some p.2 && X.env.scope.names.lookup p.2 == some .cell && scope.names.lookup p.2 == some .free)=true)
  (h2:(scope.names.all λy=>y.2 != .free || X.env.scope.names.lookup y.1 == some .cell)=true):KS X scope js:=by
 refine⟨λp hp=>?_,λy hy=>?_⟩
 .have:=gr.mp h p hp;simp only [kT,beq_iff_eq] at this;exact⟨this.1.1,this.1.2,this.2⟩
 have:=gr.mp h2 _ hy;simpa using this
def yE {σ:St}{H:Hp}{A B:Hp->Prop}(h:A H):hX σ H λb H3=>if b=true then A H3 else B H3:=by
 show if true=true then A H else B H;exact g9 h
def goN {i:Nat}{v:V}{σ:St}{H:Hp}{Q:St->Hp->Prop}(h:Q (σ.set i (some v)) H):dM i v σ H Q:=h
def Ig (ns:List Int)(lo hi:Option Int):∃VI:List Int,gq (ns.map V.int) lo hi=VI.map V.int/\(∀n∈VI,n∈ns)/\VI.length<=ns.length :=
 ⟨(ns.drop (HT.fA (ns.map V.int).length 0 lo)).take (HT.fA (ns.map V.int).length (ns.map V.int).length hi - HT.fA (ns.map V.int).length 0 lo),by unfold gq;rw [<-List.map_drop,<-oQ],λn hn=>List.mem_of_mem_drop (qV hn),by rw [dD,mw];omega⟩
def Hg {X:Cx}(K:a8)(hK:X.K=K:=by rfl):KP X (Qg K):=by
 subst hK;exact bT
def jT {X:Cx}(K:a8)(hK:X.K=K:=by rfl):KP X (Qf K):=by
 subst hK;exact bq
def ff {X:Cx}{es:List Expr}{k:Nat}{t:LZ}{n:Nat}{pos:Pos}(K:a8)(hc:X.calm=true)(h:Sz X es t)(hK:X.K=K:=by rfl)
  (hn:(assignEach es X.env).length=n:=by rfl)(mZ:(assignEach es X.env).findIdx? (·.1)=none:=by rfl):PG X (.Tuple es k pos) (AZ K n t):=by
 subst hK;exact gP hc h hn mZ
end L2
section
variable {P:PySem.Program}{w:PySem.World}{K:a8}{mg:PySem.Str->Option PySem.Value}{base:PySem.Heap}{f:PySem.Addr}{fd:PySem.FuncData}
namespace gT
open PySem L2
def top (i:Nat):Stmt:=PySem.Challenge.pw_wright_k67_trees_of_deeds.main.body.getD i (.Pass ⟨0,0,0,0⟩)
abbrev z8:Stmt:=top 2
abbrev zW:Stmt:=top 3
abbrev su:Stmt:=top 14
abbrev wk:Stmt:=top 15
abbrev Aa:Stmt:=top 16
abbrev FH:Stmt:=top 26
abbrev zZ:Stmt:=top 27
abbrev MC:Stmt:=top 28
abbrev sj:Stmt:=top 30
abbrev wo:Stmt:=top 31
abbrev nW:Stmt:=top 32
abbrev wj:Stmt:=top 35
abbrev zX:Stmt:=top 36
abbrev ME:Stmt:=top 37
abbrev FI:Stmt:=top 44
abbrev FD:Stmt:=top 4
abbrev MD:Stmt:=top 5
abbrev nX:Stmt:=top 39
abbrev pD:Stmt:=top 40
abbrev sq:Stmt:=top 41
abbrev sLT:Stmt:=top 42
structure Txt (mg:Str->Option Value):Prop where
 len:mg "len"=none
 C8:mg "range"=none
 EV:mg "isinstance"=none
 tup:mg "tuple"=none
 lst:mg "list"=none
 Bc:mg "dict"=none
 all:mg "all"=none
 any:mg "any"=none
 str:mg "str"=none
 int:mg "int"=none
 boo:mg "bool"=none
 Ko:mg "enumerate"=none
 sum:mg "sum"=none
 max:mg "max"=none
 min:mg "min"=none
section
def boot_all:bootBuiltins "all"=some (.builtin "all"):=by decide +kernel
def dZ:bootBuiltins "list"=some (.type "list"):=by decide +kernel
def jx:bootBuiltins "str"=some (.type "str"):=by decide +kernel
def fO:bootBuiltins "dict"=some (.type "dict"):=by decide +kernel
def AK:PySem.W.kitOne K (.type "int") (.type "bool")=some false:=by kernel_rfl
end
end gT
namespace L2
open PySem
def aW {K:a8}{H:Hp}{D a:Addr}{xs ys:List V}{o:HO}(hD:H D=some (.lst ys))(h:aR K H a xs):aR K (upd H D o) a xs:=by
 rcases h with (h | ⟨u,h⟩) | h
 .exact .inl (.inl (by rw [ai (λz=>by rw [z,hD] at h;cases h)];exact h))
 .exact .inl (.inr ⟨u,by rw [ai (λz=>by rw [z,hD] at h;cases h)];exact h⟩)
 exact .inr h
def xn (kvs:List (aL×V))(k:aL):(kvs.any λkv=>decide (kv.1=k))=true↔k∈kvs.map (·.1):=by
 rw [List.any_eq_true,cy];constructor
 .rintro⟨x,h1,h2⟩;exact⟨x,h1,dA h2⟩
 rintro⟨x,h1,h2⟩;exact⟨x,h1,bN h2⟩
def Ag {kvs:List (aL×V)}{k:aL}{v:V}(h:k∈kvs.map (·.1)):(bL kvs k v).map (·.1)=kvs.map (·.1):=by
 unfold bL;rw [ax ((xn kvs k).mpr h),iV];refine List.map_congr_left λx hx=>?_;show (if x.1=k then (x.1,v) else x).1=x.1
 split <;> rfl
def iB {kvs:List (aL×V)}{k:aL}{v:V}(h:¬k∈kvs.map (·.1)):(bL kvs k v).map (·.1)=kvs.map (·.1)++[k]:=by
 unfold bL;rw [aw (λz=>h ((xn kvs k).mp z)),bG];rfl
def dQ (kvs:List (aL×V))(k:aL):(bf kvs k).isSome=true↔k∈kvs.map (·.1):=by
 rw [<-ji];exact xn kvs k
theorem cu {α β γ:Type}{F:α->β->Prop}{G:α->γ->Prop}{φ:β->γ}:∀{xs:List α}{ys:List β},Paired F xs ys->(∀a b,F a b->G a (φ b))->Paired G xs (ys.map φ)
 | _,_,.nil,_=>.nil
 | _,_,.cons h t,k=>.cons (k _ _ h) (cu t k)
def cN {z:Str}{l:List Str}:(Sum.inr z:aL)∈l.map Sum.inr↔z∈l:=by
 rw [cy];constructor
 .rintro⟨x,h1,h2⟩;rw [<-ml h2];exact h1
 intro h;exact⟨z,h,rfl⟩
end L2
namespace M11
abbrev au:=PySem.Str×List PySem.Str
def ig (a:List PySem.Str)(h:PySem.Str):List PySem.Str:=if h∈a then a else a++[h]
def xi (bI hs:List PySem.Str):List PySem.Str:=hs.foldl ig bI
def addW (a7 a:List PySem.Str)(p:PySem.Str):List PySem.Str:=if p∈a7 then a else ig a p
def tZ (a7 bI ps:List PySem.Str):List PySem.Str:=ps.foldl (addW a7) bI
def OS (aa:List au)(name:PySem.Str) (k:Nat):Bool:=decide ((aa[k]?.map (·.1))=some name)
def nums (aa:List au)(name:PySem.Str) (i:Nat):List Int:=((List.range i).filter (OS aa name)).map λk:Nat=>(k:Int)
def Dw (aa:List au)(name:PySem.Str) (i:Nat):nums aa name (i+1)=nums aa name i++(if OS aa name i=true then [(i:Int)] else []):=by
 unfold nums;rw [List.range_succ,o9,bG]
 congr 1
 by_cases h:OS aa name i=true
 .rw [ax h];simp [h]
 rw [aw h];simp [h]
def yl (aa:List au)(name:PySem.Str) (i:Nat):(nums aa name i).length<=i:=by
 unfold nums;rw [av];have:=rH (OS aa name) (List.range i);rw [mz] at this;exact this
def ze (a:List PySem.Str)(h:PySem.Str):(ig a h).length<=a.length+1:=by
 unfold ig;split <;> simp
theorem iE:∀(hs bI:List PySem.Str),(xi bI hs).length<=bI.length+hs.length
 | [],bI=>by simp [xi]
 | h::r,bI=>by
  have:=iE r (ig bI h);have:=ze bI h;show (xi (ig bI h) r).length<=_;rw [dS];omega
def Ik (a7 a:List PySem.Str)(p:PySem.Str):(addW a7 a p).length<=a.length+1:=by
 unfold addW;split
 .omega
 exact ze a p
theorem vR (a7:List PySem.Str):∀(ps bI:List PySem.Str),(tZ a7 bI ps).length<=bI.length+ps.length
 | [],bI=>by simp [tZ]
 | p::r,bI=>by
  have:=vR a7 r (addW a7 bI p);have:=Ik a7 bI p;show (tZ a7 (addW a7 bI p) r).length<=_;rw [dS];omega
end M11
namespace gT
open PySem L2 M11
def lB {bI:List (aL×V)}{as:List Str}(e:bI.map (·.1)=as.map Sum.inr)(h:Str){v:V}:(bL bI (Sum.inr h) v).map (·.1)=(ig as h).map Sum.inr:=by
 unfold ig;by_cases q:h∈as
 .rw [ax q,Ag (by rw [e];exact cN.mpr q),e]
 rw [aw q,iB (by rw [e];exact λz=>q (cN.mp z)),e,bG];rfl
theorem n_:∀(hs:List Str)(bI:List (aL×V)) (as:List Str),bI.map (·.1)=as.map Sum.inr->(df (hs.map λh=>((Sum.inr h:aL),V.bl true)) bI).map (·.1)=(xi as hs).map Sum.inr
 | [],bI,as,e=>e
 | h::r,bI,as,e=>by
  refine n_ r (bL bI (Sum.inr h) (.bl true)) (ig as h) ?_;exact lB e h
def keys_str {kvs:List (aL×V)}{zs:List Str}(e:kvs.map (·.1)=zs.map Sum.inr):(kvs.map λp=>kV p.1)=zs.map V.str:=by
 have e2:(kvs.map λp=>kV p.1)=(kvs.map (·.1)).map kV:=by rw [iV];rfl
 rw [e2,e,iV];rfl
section
def CJ (K:a8)(H:Hp)(r:Addr)(ru:au):Prop:=∃p,aR K H r [.str ru.1,.ref p]/\aR K H p (ru.2.map V.str)
def bJ (K:a8)(H:Hp)(rs:List Addr)(aa:List au):Prop:=Paired (λr ru=>CJ K H r ru) rs aa
def bJ.keep {H H':Hp}{rs:List Addr}{aa:List au}(h:bJ K H rs aa)(k:∀a xs,aR K H a xs->aR K H' a xs):bJ K H' rs aa:=Paired.eJ h λr ru ⟨p,a,b⟩=>⟨p,k _ _ a,k _ _ b⟩
def bJ.same {H H':Hp}{rs:List Addr}{aa:List au}(h:bJ K H rs aa)(s:aB H H'):bJ K H' rs aa:=h.keep λ_ _ z=>s.tup z
def bJ.get {H:Hp}{rs:List Addr}{aa:List au}(h:bJ K H rs aa){i:Nat}{r:Addr}(e:rs[i]?=some r):∃ru,aa[i]?=some ru/\CJ K H r ru:=by
 have l:=a_ h;have li:=(bj.mp e).1;have e2:aa[i]?=some (aa[i]'∅):=b_ ∅;obtain⟨x,e3,e4⟩:=Paired.at_ h i _ e2;rw [e] at e3;cases e3;exact⟨_,e2,e4⟩
def tN {H:Hp}{R D:Addr}{rs:List Addr}{aa:List au}{σ:St}{Qp:Hp->Prop}(hR:aG K H R (rs.map V.ref))(cT:bJ K H rs aa)(br:aa.length<=1000)(hD:H D=none)
  (q:∀ts H2,aB H H2->H2 D=some (.lst (ts.map V.ref))->Paired (λt h=>aR K H2 t [.str h,.bl true]) ts (aa.map (·.1))->Qp H2) :
  ∃W:Nat->Nat->List V->St->Hp->Prop,(∃m,W 0 m [] (dO ["head","parts"] [] σ) (upd H D (.lst []))) /\
 ∀i m ys σ' H,W i m ys σ' H->((kn K R).stop i H/\Qp H)\/((kn K R).go i H/\∃m',m' < m/\∀x H',(kn K R).mE i H x H'->AZ K 2 (ju (dM 0) (ju (dM 1) DV)) x σ' H' λσ2 H2=>hX σ2 H2 λb H3 =>
  if b=true then ue (gM (gE 0) (gM (tC (.bl true)) rP)) σ2 H3 λy H4=>H4 D=some (.lst ys)/\ys.length < sizeLine/\W (i+1) m' (ys++[y]) σ2 (upd H4 D (.lst (ys++[y]))) else W (i+1) m' ys σ2 H3):=by
 have ll:=a_ cT;refine cI (xs:=rs.map V.ref) (λi ys σ2 H2=>∃ts:List Addr,ys=ts.map V.ref/\ts.length=i/\Paired (λt h=>aR K H2 t [.str h,.bl true]) ts ((aa.take i).map (·.1))/\(∃y0 y1,σ2=[y0,y1])/\aB H H2/\H2 D=some (.lst ys))
  ⟨[],rfl,rfl,.nil,⟨none,none,rfl⟩,af hD _,ae⟩ (λi ys σ2 H2 _ h=>?_) (λi x ys σ2 H2 ex h=>?_) (λys σ2 H2 h=>?_)
 .obtain⟨_,_,_,_,_,sm,_⟩:=h;exact sm.seq hR
 .obtain⟨ts,rfl,ht,hp,⟨y0,y1,rfl⟩,sm,hd⟩:=h;rw [bo] at ex;obtain⟨r,er,rfl⟩:=cg.mp ex;obtain⟨ru,e1,p,v1,v2⟩:=cT.get er;have li:=(bj.mp e1).1;refine⟨r,_,rfl,sm.tup v1,rfl,_,_,rfl,_,_,rfl,rfl,?_⟩;refine yE ?_;refine⟨_,rfl,oK,λt jz=>⟨?_,bF (by rw [av];omega),ts++[t],?_,?_,?_,⟨_,_,rfl⟩,?_,ae⟩⟩
  .rw [ai (az hd jz)];exact hd
  .rw [bG];rfl
  .rw [bp,ht];rfl
  .rw [cQ,e1,bG];have jf:upd H2 t (.tup [.str ru.1,.bl true]) D=some (.lst (ts.map V.ref)):=by rw [ai (az hd jz)];exact hd
   exact gX (Paired.eJ hp λt' h' z=>aW jf ((af jz _).tup z)) (aW jf (aR.of ae))
  intro b o hb;rw [ai (λz=>by rw [z,hD] at hb;cases hb)];exact af jz _ _ _ (sm b o hb)
 obtain⟨ts,rfl,ht,hp,_,sm,hd⟩:=h;rw [av,ll,cP] at hp;exact q ts H2 sm hd hp
def jG (K:a8):Sp:=λvs H Q _=>∃(R:Addr)(rs:List Addr)(aa:List au),vs=[.ref R]/\aG K H R (rs.map V.ref)/\bJ K H rs aa/\aa.length<=1000 /\
 ∀D H',H D=none->aB H H'->H' D=some (.lst ((xi [] (aa.map (·.1))).map V.str))->Q (.ref D) H'
def Jv:aI ["rules"] ["rules"] (ay z8):=iT rfl rfl rfl rfl nofun
def Gy (F:iz K "heads_of" "heads_of" z8 f fd)(T:Txt mg):bR P w K mg base fY 1 f fd ["rules"] (jG K):=by
 refine F.ok Jv (λvs H Q E h=>?_) (λeK A outer s H vs Q E hr h=>?_)
 .obtain⟨R,rs,aa,rfl,_⟩:=h;rfl
 obtain⟨R,rs,aa,rfl,hR,cT,br,q⟩:=h;refine⟨_,ak (aQ (aV (mW rfl) rfl T.lst dZ (ab (aV (dP rfl) rfl T.Bc fO (ab
  (ba ["head","parts"] [] rfl (aX (pv 0)) (a9 rfl rfl) nofun rfl nofun
   (λ_ _ _ _ _=>ff (n:=2) K rfl (aA (ao (i:=0) (show (["head","parts"]:List Str).Nodup by decide +kernel) rfl (bB rfl)) (aA (ao (i:=1) (show (["head","parts"]:List Str).Nodup by decide +kernel) rfl (bB rfl)) bV))) (λ_ _ _ _ _=>bQ)
   (λ_ _ _ _ _=>bS (ab (pv 0) (ab dW ah)))) ah)) ah))),?_⟩
 dsimp only [Bd];refine⟨_,rfl,R,rfl,⟨_,hR⟩,λD hD=>tN hR cT br hD λts H2 sm hd hp=>?_⟩;have kp:Paired (λt (kv:aL×V)=>aR K H2 t [kV kv.1,kv.2]) ts ((aa.map (·.1)).map λh=>((Sum.inr h:aL),V.bl true)):=cu hp λ_ _ z=>z;refine⟨D,ts,_,rfl,hd,kp,λd hd2=>?_⟩;refine⟨d,_,rfl,ae,λD2 i5=>?_⟩;rw [keys_str (n_ (aa.map (·.1)) [] [] rfl)];have nd:D2≠d:=λz=>by rw [z,ae] at i5;cases i5
 exact q D2 _ (sm.free (by rw [ai nd] at i5;exact i5)) (sm.trans ((af hd2 _).trans (af i5 _))) ae
theorem jv:∀(aa:List au) (n:Nat),aa.length<=n->(∀ru∈aa,ru.2.length<=8)->(aa.flatMap (·.2)).length<=8 * n
 | [],n,_,_=>by simp
 | ru::r,n,hl,h=>by
  rw [dS] at hl;have:=jv r (n - 1) ∅ λx hx=>h x (cW _ hx);have:=h ru cJ;rw [vy,bp];omega
def hd (aa:List au):List Str:=xi [] (aa.map (·.1))
def BK (K:a8):Sp:=λvs H Q _=>∃(R:Addr)(rs:List Addr)(aa:List au),vs=[.ref R]/\aG K H R (rs.map V.ref)/\bJ K H rs aa/\aa.length<=1000/\(∀ru∈aa,ru.2.length<=8) /\
 ∀D H',H D=none->aB H H'->H' D=some (.lst ((tZ (hd aa) [] (aa.flatMap (·.2))).map V.str))->Q (.ref D) H'
def lK:aI ["rules","heads","words","head","parts","part"] ["rules"] (ay zW):=iT rfl rfl rfl rfl nofun
def Gp (F:iz K "words_in" "words_in" zW f fd)(T:Txt mg):bR P w K mg base fY 1 f fd ["rules"] (BK K):=by
 refine F.ok lK (λvs H Q E h=>?_) (λeK A outer s H vs Q E hr h=>?_)
 .obtain⟨R,rs,aa,rfl,_⟩:=h;rfl
 obtain⟨R,rs,aa,rfl,hR,cT,br,h8,q⟩:=h;have hu:=fX hr;refine⟨_,aj (aC (i:=1) lK.nd rfl (bB rfl) (aV (dP rfl) rfl T.Bc fO (ab
  (ba ["head","parts"] [] rfl (aX (pv 0)) (a9 rfl rfl) nofun rfl nofun
   (λ_ _ _ _ _=>ff (n:=2) K rfl (aA (ao (i:=0) (show (["head","parts"]:List Str).Nodup by decide +kernel) rfl (bB rfl)) (aA (ao (i:=1) (show (["head","parts"]:List Str).Nodup by decide +kernel) rfl (bB rfl)) bV))) (λ_ _ _ _ _=>bQ)
   (λ_ _ _ _ _=>bS (ab (pv 0) (ab dW ah)))) ah)))
  (aj (aC (i:=2) lK.nd rfl (bB rfl) gQ)
  (aj (bK b9 rfl (aX (pv 0)) (gP rfl (aA (ao (i:=3) lK.nd rfl (bB rfl)) (aA (ao (i:=4) lK.nd rfl (bB rfl)) bV)))
   (ak (bK b9 rfl (fI (pv 4)) (ao (i:=5) lK.nd rfl (bB rfl))
    (ak (bU (dH (dX hu (pv 5) (pv 1))) (ak (iC hu (pv 2) (pv 5) dW rfl)) aS)))))
  (ak (aQ (aV (mW rfl) rfl T.lst dZ (ab (pv 2) ah)))))),?_⟩
 nofun
 refine⟨_,rfl,R,rfl,⟨_,hR⟩,λD hD=>tN hR cT br hD λts H2 sm hd2 hp=>?_⟩;have kp:Paired (λt (kv:aL×V)=>aR K H2 t [kV kv.1,kv.2]) ts ((aa.map (·.1)).map λh=>((Sum.inr h:aL),V.bl true)):=cu hp λ_ _ z=>z;refine⟨D,ts,_,rfl,hd2,kp,λd hdd=>?_⟩;have Lk:(df ((aa.map (·.1)).map λh=>((Sum.inr h:aL),V.bl true)) []).map (·.1)=(hd aa).map Sum.inr:=n_ (aa.map (·.1)) [] [] rfl;generalize df ((aa.map (·.1)).map λh=>((Sum.inr h:aL),V.bl true)) []=kH at Lk ⊢;have OL:=sm.trans (af hdd (.dK kH));have jf:upd H2 d (.dK kH) d=some (.dK kH):=ae;generalize upd H2 d (.dK kH)=H3 at OL jf;intro e he;have hde:∀o,upd H3 e o d=some (.dK kH):=λo=>by rw [ai (az jf he)];exact jf
 have B0:∀o,aB H (upd H3 e o):=λo=>OL.trans (af he o);have ll:=a_ cT
 let qF:pU:=λi σ H5=>∃(kvs:List (aL×V))(y3 y4 y5:Option V),σ=[aM R,aM d,aM e,y3,y4,y5]/\H5=upd H3 e (.dK kvs) /\
  kvs.map (·.1)=(tZ (hd aa) [] ((aa.take i).flatMap (·.2))).map Sum.inr
 refine⟨_,rfl,R,rfl,⟨_,(B0 _).seq hR⟩,cR (xs:=rs.map V.ref) qF ⟨[],none,none,none,rfl,rfl,rfl⟩ ?_ ?_ ?_⟩
 .rintro i σ H5 _ ⟨kvs,y3,y4,y5,rfl,rfl,_⟩;exact(B0 _).seq hR
 .rintro i x σ H5 ex ⟨kvs,y3,y4,y5,rfl,rfl,hk⟩
  ac_nf0
  rw [bo] at ex;obtain⟨r,er,rfl⟩:=cg.mp ex;obtain⟨ru,e1,p,v1,v2⟩:=cT.get er;have li:=(bj.mp e1).1;have O2:=h8 ru (b8 e1);have eT:(aa.take (i+1)).flatMap (·.2)=(aa.take i).flatMap (·.2)++ru.2:=by
   rw [cQ,e1,qa];simp
  have lA:((aa.take i).flatMap (·.2)).length<=8 * i:=jv (aa.take i) i (by rw [dD];omega) λru iS=>h8 ru (qV iS);refine⟨r,_,rfl,(B0 _).tup v1,rfl,_,_,rfl,_,_,rfl,rfl,?_⟩
  let Bq:pU:=λj σ H6=>∃(kvs:List (aL×V))(y5:Option V),σ=[aM R,aM d,aM e,some (.str ru.1),aM p,y5]/\H6=upd H3 e (.dK kvs) /\
   kvs.map (·.1)=(tZ (hd aa) [] ((aa.take i).flatMap (·.2)++ru.2.take j)).map Sum.inr
  refine⟨_,rfl,p,rfl,⟨_,(B0 _).tup v2⟩,oz (xs:=ru.2.map V.str) Bq ⟨kvs,_,rfl,rfl,by rw [oU,iu];exact hk⟩ ?_ ?_ ?_⟩
  .rintro j σ H6 _ ⟨kvs,y5,rfl,rfl,_⟩;exact(B0 _).tup v2
  .rintro j x σ H6 pO ⟨kvs,y5,rfl,rfl,DN⟩
   ac_nf0
   rw [bo] at pO;obtain⟨z,ez,rfl⟩:=cg.mp pO;have lj:=(bj.mp ez).1;have eS:tZ (hd aa) [] ((aa.take i).flatMap (·.2)++ru.2.take (j+1))=addW (hd aa) (tZ (hd aa) [] ((aa.take i).flatMap (·.2)++ru.2.take j)) z:=by
    rw [cQ,ez,<-lV];exact vB
   have lk:kvs.length<=8 * i+8:=by
    have h1:kvs.length=(tZ (hd aa) [] ((aa.take i).flatMap (·.2)++ru.2.take j)).length:=by
     have:=congrArg List.length DN;rw [av,av] at this;exact this
    have h2:=vR (hd aa) ((aa.take i).flatMap (·.2)++ru.2.take j) [];rw [bp,dD] at h2;simp only [iX] at h2;omega
   have mem:(bf kH (Sum.inr z)).isSome=true↔z∈hd aa:=by rw [dQ,Lk];exact cN
   refine⟨_,rfl,_,rfl,d,_,rfl,bX.k (k:=Sum.inr z) (hde _),_,rfl,?_⟩;refine cE (λc=>?_) (λc=>?_)
   .have nm:z∉hd aa:=λh=>by rw [mem.mpr h] at c;exact absurd c nofun
    refine⟨_,rfl,_,rfl,e,_,rfl,pX.k (k:=Sum.inr z) ae (bF ∅),?_⟩;refine⟨bL kvs (Sum.inr z) (.bl true),_,rfl,by rw [nF],?_⟩;rw [eS];unfold addW;rw [aw nm];exact lB DN z
   have im:z∈hd aa:=mem.mp (by
    cases h:(bf kH (Sum.inr z)).isSome with
    | true=>rfl
    | false=>exact absurd (by rw [h];rfl) c)
   refine⟨kvs,_,rfl,rfl,?_⟩;rw [eS];unfold addW;rw [ax im];exact DN
  rintro σ H6 ⟨kvs,y5,rfl,rfl,DN⟩;rw [av,cP,<-eT] at DN;exact⟨kvs,_,_,_,rfl,rfl,DN⟩
 rintro σ H5 ⟨kvs,y3,y4,y5,rfl,rfl,hk⟩;rw [av,ll,cP] at hk;refine⟨_,rfl,e,_,rfl,ae,λD2 i5=>?_⟩;rw [keys_str hk];exact q D2 _ ((B0 _).free i5) ((B0 _).trans (af i5 _)) ae
end
end gT
namespace L2
open PySem
section
variable {K:a8}{a D:Addr}{xs:List V}{ts:List Str}{js:List (Nat×Str)}{g:TG}{tif:TT}{te:TE}{R:Hp->Prop}{σ:St}{H:Hp}
def gB (Pv:Nat->List V->St->Hp->Prop)(h0:Pv 0 [] (dO ts js σ) (upd H D (.lst [])))(hl:∀i ys σ H,i<=xs.length->Pv i ys σ H->aR K H a xs)
  (hs:∀i x ys σ H,xs[i]?=some x->Pv i ys σ H->g x σ H λσ2 H2=>tif σ2 H2 λb H3=>if b=true then te σ2 H3 λy H4=>H4 D=some (.lst ys)/\ys.length < sizeLine/\Pv (i+1) (ys++[y]) σ2 (upd H4 D (.lst (ys++[y]))) else Pv (i+1) ys σ2 H3)
  (hd:∀ys σ H,Pv xs.length ys σ H->R H) :
  ∃W:Nat->Nat->List V->St->Hp->Prop,(∃m,W 0 m [] (dO ts js σ) (upd H D (.lst []))) /\
 ∀i m ys σ' H,W i m ys σ' H->((oJ K a).stop i H/\R H)\/((oJ K a).go i H/\∃m',m' < m/\∀x H',(oJ K a).mE i H x H'->g x σ' H' λσ2 H2=>tif σ2 H2 λb H3 =>
  if b=true then te σ2 H3 λy H4=>H4 D=some (.lst ys)/\ys.length < sizeLine/\W (i+1) m' (ys++[y]) σ2 (upd H4 D (.lst (ys++[y]))) else W (i+1) m' ys σ2 H3):=by
 refine⟨λi m ys σ H=>m=xs.length - i/\i<=xs.length/\Pv i ys σ H,⟨xs.length,by simp,fj _,h0⟩,?_⟩;rintro i m ys σ' H ⟨rfl,hi,p⟩;have q:=hl i ys σ' H hi p;by_cases je:i < xs.length
 .refine .inr ⟨⟨xs,xs[i],q,by simp [je]⟩,xs.length - (i+1),∅,λx H' y=>?_⟩;obtain⟨e,y⟩:=y;subst e;have z:=hs i x ys σ' _ (y xs q) p;have h1:(i+1<=xs.length)=True:=eq_true je;simp only [h1,true_and];exact z
 have e:i=xs.length:=by omega
 subst e;exact .inl ⟨⟨xs,q,aD _⟩,hd ys σ' H p⟩
def yV (Pv:Nat->List V->St->Hp->Prop)(h0:Pv 0 [] (dO ts js σ) (upd H D (.lst [])))(hl:∀i ys σ H,i<=xs.length->Pv i ys σ H->aR K H a xs)
  (hs:∀i x ys σ H t,xs[i]?=some x->Pv i ys σ H->H t=none->g (.ref t) σ (upd H t (.tup [.int (i:Int),x])) λσ2 H2=>tif σ2 H2 λb H3=>if b=true then te σ2 H3 λy H4=>H4 D=some (.lst ys)/\ys.length < sizeLine/\Pv (i+1) (ys++[y]) σ2 (upd H4 D (.lst (ys++[y]))) else Pv (i+1) ys σ2 H3)
  (hd:∀ys σ H,Pv xs.length ys σ H->R H) :
  ∃W:Nat->Nat->List V->St->Hp->Prop,(∃m,W 0 m [] (dO ts js σ) (upd H D (.lst []))) /\
 ∀i m ys σ' H,W i m ys σ' H->((tX K a).stop i H/\R H)\/((tX K a).go i H/\∃m',m' < m/\∀x H',(tX K a).mE i H x H'->g x σ' H' λσ2 H2=>tif σ2 H2 λb H3 =>
  if b=true then te σ2 H3 λy H4=>H4 D=some (.lst ys)/\ys.length < sizeLine/\W (i+1) m' (ys++[y]) σ2 (upd H4 D (.lst (ys++[y]))) else W (i+1) m' ys σ2 H3):=by
 refine⟨λi m ys σ H=>m=xs.length - i/\i<=xs.length/\Pv i ys σ H,⟨xs.length,by simp,fj _,h0⟩,?_⟩;rintro i m ys σ' H ⟨rfl,hi,p⟩;have q:=hl i ys σ' H hi p;by_cases je:i < xs.length
 .refine .inr ⟨⟨xs,xs[i],q,by simp [je]⟩,xs.length - (i+1),∅,λx H' y=>?_⟩;obtain⟨t,y0,rfl,ht,rfl,y⟩:=y;have z:=hs i y0 ys σ' _ t (y xs q) p ht;have h1:(i+1<=xs.length)=True:=eq_true je;simp only [h1,true_and];exact z
 have e:i=xs.length:=by omega
 subst e;exact .inl ⟨⟨xs,q,aD _⟩,hd ys σ' H p⟩
end
def lG {K:a8}{a:Addr}{xs:List V}{g:TG}{tb:TS}{D:Ends}{σ:St}{H:Hp}(Pv:Nat->St->Hp->Prop)(h0:Pv 0 σ H)(hl:∀i σ H,i<=xs.length->Pv i σ H->aG K H a xs)
  (hs:∀i x σ H t,xs[i]?=some x->Pv i σ H->H t=none->g (.ref t) σ (upd H t (.tup [.int (i:Int),x])) λσ2 H2=>tb { D with nx:=Pv (i+1),ct:=Pv (i+1),bk:=D.nx } σ2 H2)(hd:∀σ H,Pv xs.length σ H->D.nx σ H) :
  ∃W:Nat->Nat->St->Hp->Prop,(∃m,W 0 m σ H)/\∀i m σ H,W i m σ H ->
   ((SF K a).stop i H/\D.nx σ H)\/((SF K a).go i H/\∃N:St->Hp->Prop,(∀σ' H',N σ' H'->∃m',m' < m/\W (i+1) m' σ' H')/\∀x H',(SF K a).mE i H x H'->g x σ H' λσ2 H2=>tb { D with nx:=N,ct:=N,bk:=D.nx } σ2 H2):=by
 refine⟨λi m σ H=>m=xs.length - i/\i<=xs.length/\Pv i σ H,⟨xs.length,by simp,fj _,h0⟩,?_⟩;rintro i m σ H ⟨rfl,hi,p⟩;have q:=hl i σ H hi p;by_cases je:i < xs.length
 .refine .inr ⟨⟨xs,xs[i],q,by simp [je]⟩,Pv (i+1),λσ' H' p'=>⟨xs.length - (i+1),∅,rfl,je,p'⟩,λx H' y=>?_⟩;obtain⟨t,y0,rfl,ht,rfl,y⟩:=y;exact hs i y0 σ _ t (y xs q) p ht
 have e:i=xs.length:=by omega
 subst e;exact .inl ⟨⟨xs,q,aD _⟩,hd σ H p⟩
def pN {K:a8}{a:Addr}{xs:List V}{g:TG}{tb:TS}{D:Ends}{σ:St}{H:Hp}(Pv:Nat->St->Hp->Prop)(h0:Pv 0 σ H)(hl:∀i σ H,i<=xs.length->Pv i σ H->aR K H a xs)
  (hs:∀i x σ H t,xs[i]?=some x->Pv i σ H->H t=none->g (.ref t) σ (upd H t (.tup [.int (i:Int),x])) λσ2 H2=>tb { D with nx:=Pv (i+1),ct:=Pv (i+1),bk:=D.nx } σ2 H2)(hd:∀σ H,Pv xs.length σ H->D.nx σ H) :
  ∃W:Nat->Nat->St->Hp->Prop,(∃m,W 0 m σ H)/\∀i m σ H,W i m σ H ->
   ((tX K a).stop i H/\D.nx σ H)\/((tX K a).go i H/\∃N:St->Hp->Prop,(∀σ' H',N σ' H'->∃m',m' < m/\W (i+1) m' σ' H')/\∀x H',(tX K a).mE i H x H'->g x σ H' λσ2 H2=>tb { D with nx:=N,ct:=N,bk:=D.nx } σ2 H2):=by
 refine⟨λi m σ H=>m=xs.length - i/\i<=xs.length/\Pv i σ H,⟨xs.length,by simp,fj _,h0⟩,?_⟩;rintro i m σ H ⟨rfl,hi,p⟩;have q:=hl i σ H hi p;by_cases je:i < xs.length
 .refine .inr ⟨⟨xs,xs[i],q,by simp [je]⟩,Pv (i+1),λσ' H' p'=>⟨xs.length - (i+1),∅,rfl,je,p'⟩,λx H' y=>?_⟩;obtain⟨t,y0,rfl,ht,rfl,y⟩:=y;exact hs i y0 σ _ t (y xs q) p ht
 have e:i=xs.length:=by omega
 subst e;exact .inl ⟨⟨xs,q,aD _⟩,hd σ H p⟩
def u9 {K:a8}{H:Hp}{p D d:Addr}{zs:List Str}{kvs:List (aL×V)}{σ:St}{js:List (Nat×Str)}{Qp:Hp->Prop}(hσ:dO ["part"] js σ=[none,aM d])(hp:aR K H p (zs.map V.str))(hz:zs.length<=1000)
  (hd:H d=some (.dK kvs))(hD:H D=none)(q:∀H2,aB H H2->H2 D=some (.lst ((zs.map λz=>(bf kvs (Sum.inr z)).isSome).map V.bl))->Qp H2) :
  ∃W:Nat->Nat->List V->St->Hp->Prop,(∃m,W 0 m [] (dO ["part"] js σ) (upd H D (.lst []))) /\
 ∀i m ys σ' H,W i m ys σ' H->((oJ K p).stop i H/\Qp H)\/((oJ K p).go i H/\∃m',m' < m/\∀x H',(oJ K p).mE i H x H'->dM 0 x σ' H' λσ2 H2=>hX σ2 H2 λb H3 =>
  if b=true then P1 (gE 0) (gE 1) σ2 H3 λy H4=>H4 D=some (.lst ys)/\ys.length < sizeLine/\W (i+1) m' (ys++[y]) σ2 (upd H4 D (.lst (ys++[y]))) else W (i+1) m' ys σ2 H3):=by
 refine gB (xs:=zs.map V.str) (λi ys σ2 H2=>ys=(((zs.take i).map λz=>(bf kvs (Sum.inr z)).isSome).map V.bl)/\(∃y0,σ2=[y0,aM d])/\aB H H2/\H2 D=some (.lst ys))
  ⟨rfl,⟨none,hσ⟩,af hD _,ae⟩ (λi ys σ2 H2 _ h=>h.2.2.1.tup hp) (λi x ys σ2 H2 ex h=>?_) (λys σ2 H2 h=>?_)
 .obtain⟨rfl,⟨y0,rfl⟩,sm,hd2⟩:=h;rw [bo] at ex;obtain⟨z,ez,rfl⟩:=cg.mp ex;have li:=(bj.mp ez).1;refine goN (yE ?_);refine⟨_,rfl,_,rfl,d,_,rfl,bX.k (k:=Sum.inr z) (sm _ _ hd),hd2,bF (by rw [av,av,dD];omega),?_,⟨_,rfl⟩,?_,ae⟩
  .rw [cQ,ez,bG,bG];rfl
  intro b o hb;rw [ai (λz=>by rw [z,hD] at hb;cases hb)];exact sm b o hb
 obtain⟨rfl,_,sm,hd2⟩:=h;rw [av,cP] at hd2;exact q H2 sm hd2
def hZ {K:a8}{H:Hp}{D a:Addr}{xs:List V}{ys:List (aL×V)}{o:HO}(hD:H D=some (.dK ys))(h:aR K H a xs):aR K (upd H D o) a xs:=by
 rcases h with (h | ⟨u,h⟩) | h
 .exact .inl (.inl (by rw [ai (λz=>by rw [z,hD] at h;cases h)];exact h))
 .exact .inl (.inr ⟨u,by rw [ai (λz=>by rw [z,hD] at h;cases h)];exact h⟩)
 exact .inr h
theorem gA {α:Type} [DecidableEq α]:∀(l m:List α),l.Nodup->(∀x∈l,x∈m)->l.length<=m.length
 | [],m,_,_=>fj _
 | a::l,m,hn,h=>by
  have hm:=h a cJ;have:=gA l (m.erase a) (ni.mp hn).2 λx hx=>(List.mem_erase_of_ne (λz:x=a=>(ni.mp hn).1 (by rw [<-z];exact hx))).mpr (h x (cW _ hx));rw [List.length_erase_of_mem hm] at this;have:=List.length_pos_of_mem hm;rw [dS];omega
end L2
namespace M11
open PySem L2
inductive xu (aa:List au):List (Str×Nat)->Prop
 | nil:xu aa []
 | snoc {bz:List (Str×Nat)}{k:Nat}{ru:au}:xu aa bz->aa[k]?=some ru->ru.1∉bz.map (·.1)->(∀p∈ru.2,p∈bz.map (·.1))->xu aa (bz++[(ru.1,k)])
def zk (aa:List au) (n:Nat)(bz:List (Str×Nat)):Prop:=∀ru∈aa.take n,(∀p∈ru.2,p∈bz.map (·.1))->ru.1∈bz.map (·.1)
def xu.nd {aa:List au}{bz:List (Str×Nat)}(h:xu aa bz):(bz.map (·.1)).Nodup:=by
 induction h with
 | nil=>exact kK
 | snoc h e n p ih =>
  rw [bG];refine j9.mpr ⟨ih,by simp,λa ha b hb=>?_⟩;rw [o_,bC] at hb;exact λz=>n (by rw [<-hb,<-z];exact ha)
def xu.head {aa:List au}{bz:List (Str×Nat)}(h:xu aa bz):∀x∈bz.map (·.1),x∈aa.map (·.1):=by
 induction h with
 | nil=>simp
 | snoc h e n p ih =>
  intro x hx;rw [bG] at hx;rcases cq.mp hx with hx | hx
  .exact ih x hx
  rw [o_,bC] at hx;rw [hx];exact j_ (b8 e)
def xu.len {aa:List au}{bz:List (Str×Nat)}(h:xu aa bz):bz.length<=aa.length:=by
 have:=gA _ _ h.nd h.head;rw [av,av] at this;exact this
end M11
namespace gT
open PySem L2 M11
section
def pV (K:a8)(H:Hp)(ts:List Addr)(bz:List (Str×Nat)):Prop:=Paired (λt (e:Str×Nat)=>aR K H t [.str e.1,.int (e.2:Int)]) ts bz
def pV.keep {H H':Hp}{ts:List Addr}{bz:List (Str×Nat)}(h:pV K H ts bz)(k:∀a xs,aR K H a xs->aR K H' a xs):pV K H' ts bz:=Paired.eJ h λt e z=>k _ _ z
structure CL (K:a8)(aa:List au)(H H5:Hp)(D d:Addr)(ts:List Addr)(bz:List (Str×Nat))(kvs:List (aL×V)):Prop where
 sm:aB H H5
 hD:H5 D=some (.lst (ts.map V.ref))
 hd:H5 d=some (.dK kvs)
 keys:kvs.map (·.1)=(bz.map (·.1)).map Sum.inr
 ev:pV K H5 ts bz
 emp:xu aa bz
def CL.same {aa:List au}{H H5 H6:Hp}{D d:Addr}{ts:List Addr}{bz:List (Str×Nat)}{kvs:List (aL×V)}(h:CL K aa H H5 D d ts bz kvs)(s:aB H5 H6):CL K aa H H6 D d ts bz kvs :=
 ⟨h.sm.trans s,s _ _ h.hD,s _ _ h.hd,h.keys,h.ev.keep λ_ _ z=>s.tup z,h.emp⟩
def CL.mem {aa:List au}{H H5:Hp}{D d:Addr}{ts:List Addr}{bz:List (Str×Nat)}{kvs:List (aL×V)}(h:CL K aa H H5 D d ts bz kvs)(z:Str):(bf kvs (Sum.inr z)).isSome=true↔z∈bz.map (·.1):=by
 rw [dQ,h.keys];exact cN
def CL.len {aa:List au}{H H5:Hp}{D d:Addr}{ts:List Addr}{bz:List (Str×Nat)}{kvs:List (aL×V)}(h:CL K aa H H5 D d ts bz kvs):ts.length=bz.length/\kvs.length=bz.length:=by
 refine⟨a_ h.ev,?_⟩;have:=congrArg List.length h.keys;simpa using this
def CL.more {aa:List au}{H H5:Hp}{D d t:Addr}{ts:List Addr}{bz:List (Str×Nat)}{kvs:List (aL×V)}(h:CL K aa H H5 D d ts bz kvs)(fD:H D=none)(fd:H d=none){k:Nat}{ru:au}(e:aa[k]?=some ru)
  (n:ru.1∉bz.map (·.1))(p:∀x∈ru.2,x∈bz.map (·.1))(ht:upd H5 d (.dK (bL kvs (Sum.inr ru.1) (.bl true))) t=none) :
  CL K aa H (upd (upd (upd H5 d (.dK (bL kvs (Sum.inr ru.1) (.bl true)))) t (.tup [.str ru.1,.int (k:Int)])) D (.lst (ts.map V.ref++[.ref t]))) D d (ts++[t]) (bz++[(ru.1,k)]) (bL kvs (Sum.inr ru.1) (.bl true)):=by
 have Zy:D≠d:=λz=>by have:=h.hD;rw [z,h.hd] at this;cases this
 have nt:t≠d:=λz=>by rw [z,ae] at ht;cases ht
 have Q7:H5 t=none:=by rw [ai nt] at ht;exact ht
 have nDt:D≠t:=λz=>by rw [<-z,h.hD] at Q7;cases Q7
 have i5:upd (upd H5 d (.dK (bL kvs (Sum.inr ru.1) (.bl true)))) t (.tup [.str ru.1,.int (k:Int)]) D=some (.lst (ts.map V.ref)):=by rw [ai nDt,ai Zy];exact h.hD
 have kp:∀a xs,aR K H5 a xs->aR K (upd (upd (upd H5 d (.dK (bL kvs (Sum.inr ru.1) (.bl true)))) t (.tup [.str ru.1,.int (k:Int)])) D (.lst (ts.map V.ref++[.ref t]))) a xs:=λa xs z =>
  aW i5 ((af ht _).tup (hZ h.hd z))
 refine⟨λb o hb=>?_,by rw [ae,bG];rfl,by rw [ai Zy.symm,ai nt.symm,ae],?_,gX (h.ev.keep kp) (aW i5 (aR.of ae)),.snoc h.emp e n p⟩
 .have:=h.sm b o hb;rw [ai (λz=>by rw [z,fD] at hb;cases hb),ai (λz=>by rw [z,Q7] at this;cases this),ai (λz=>by rw [z,fd] at hb;cases hb)];exact this
 rw [iB (by rw [h.keys];exact λz=>n (cN.mp z)),h.keys,bG,bG];rfl
def px (K:a8):Sp:=λvs H Q _=>∃(R:Addr)(rs:List Addr)(aa:List au),vs=[.ref R]/\aG K H R (rs.map V.ref)/\bJ K H rs aa/\aa.length<=1000/\(∀ru∈aa,ru.2.length<=8) /\
 ∀D ts bz H',H D=none->aB H H'->H' D=some (.lst (ts.map V.ref))->pV K H' ts bz->xu aa bz->zk aa aa.length bz->Q (.ref D) H'
def g7:aI ["rules","told","empty","many","number","rule"] ["rules"] (ay su):=iT rfl rfl rfl rfl nofun
def Ay (F:iz K "found_empties" "found_empties" su f fd)(T:Txt mg):bR P w K mg base fY 1 f fd ["rules"] (px K):=by
 refine F.ok g7 (λvs H Q E h=>?_) (λeK A outer s H vs Q E hr h=>?_)
 .obtain⟨R,rs,aa,rfl,_⟩:=h;rfl
 obtain⟨R,rs,aa,rfl,hR,cT,br,h8,q⟩:=h;have hu:=fX hr;refine⟨_,aj (aC (i:=1) g7.nd rfl (bB rfl) (bA ah))
  (aj (aC (i:=2) g7.nd rfl (Or.inr rfl) gQ)
  (aj (aC (i:=3) g7.nd rfl (bB rfl) (l7 ja ar))
  (aj (k9 b9 (bw qi (pv 3) (aF aK rfl T.len dJ (ab (pv 1) ah)) (bW _))
   (aj (aC (i:=3) g7.nd rfl (bB rfl) (aF aK rfl T.len dJ (ab (pv 1) ah)))
   (ak (bK b9 rfl (n5 rfl T.Ko (ab (pv 0) ah)) (gP rfl (aA (ao (i:=4) g7.nd rfl (bB rfl)) (aA (ao (i:=5) g7.nd rfl (bB rfl)) bV)))
    (ak (bU (PW.pt (jb (dH (dX hu (aP bq (pv 5) ar (λ_ _=>rfl)) (pv 2)))
      (iA (dG (aF (gC rfl) rfl T.all boot_all (ab (ba ["part"] [(2,"empty")] rfl (fI (aP bq (pv 5) ar (λ_ _=>rfl))) (a9 rfl rfl) nofun rfl nofun
       (λ_ _ _ _ _=>ao (i:=0) (show (["part","empty"]:List Str).Nodup by decide +kernel) rfl (bB rfl)) (λ_ _ _ _ _=>bQ) (λ_ _ _ _ _=>sG (jc hu (pv 0) (pv 1)))) ah))))))
     (aj (iC hu (pv 2) (aP bq (pv 5) ar (λ_ _=>rfl)) dW rfl)
     (ak (cC (gR f_ gK gL bM (pv 1) (ab (bS (ab (aP bq (pv 5) ar (λ_ _=>rfl)) (ab (pv 4) ah))) ah))))) aS))))))
  (ak (aQ (pv 1)))))),?_⟩
 nofun
 refine⟨rM,λD hD d hd=>?_⟩;have Zw:d≠D:=λz=>by rw [z,ae] at hd;cases hd
 have ub:H d=none:=by rw [ai Zw] at hd;exact hd
 have e0:CL K aa H (upd (upd H D (.lst [])) d (.dK [])) D d [] [] []:=⟨(af hD _).trans (af hd _),by rw [ai Zw.symm,ae];rfl,ae,rfl,.nil,.nil⟩;generalize upd (upd H D (.lst [])) d (.dK [])=H0 at e0;refine⟨1,rfl,?_⟩;refine⟨λm σ H5=>∃(ts:List Addr)(bz:List (Str×Nat))(kvs:List (aL×V)) (many:Int)(y4 y5:Option V),σ=[aM R,aM D,aM d,some (.int many),y4,y5]/\CL K aa H H5 D d ts bz kvs/\-1<=many/\many<=bz.length/\(many=bz.length->zk aa aa.length bz)/\(m:Int)=aa.length+1 - many,
  ⟨aa.length+2,[],[],[],-1,none,none,rfl,e0,∅,by simp,by simp,by simp;omega⟩,?_⟩
 rintro m σ H5 ⟨ts,bz,kvs,many,y4,y5,rfl,S,b1,b2,cl,em⟩;obtain⟨lt,lk⟩:=S.len;refine⟨_,rfl,_,rfl,D,_,rfl,.inl (aG.of S.hD),_,_,rfl,rfl,_,rfl,?_⟩;refine cE (λc=>?_) (λc=>?_)
 .have c':=dA c;rw [av,lt] at c';refine⟨λσ H5=>∃(xw:List Addr)(iD:List (Str×Nat))(fS:List (aL×V))(y4 y5:Option V),σ=[aM R,aM D,aM d,some (.int (bz.length:Int)),y4,y5]/\CL K aa H H5 D d xw iD fS/\bz.length<=iD.length/\(iD.length=bz.length->zk aa aa.length iD),?_,?_⟩
  .rintro σ H6 ⟨xw,iD,fS,y4,y5,rfl,S2,l2,c2⟩;have:=S2.emp.len;exact⟨(aa.length+1 - bz.length:Int).toNat,∅,xw,iD,fS,_,_,_,rfl,S2,∅,∅,λz=>c2 ∅,∅⟩
  refine⟨_,rfl,D,_,rfl,.inl (aG.of S.hD),?_⟩;rw [av,lt];refine⟨_,rfl,R,_,rfl,S.sm.seq hR,?_⟩;refine lG (xs:=rs.map V.ref) (λi σ H6=>∃(xw:List Addr)(iD:List (Str×Nat))(fS:List (aL×V))(y4 y5:Option V),σ=[aM R,aM D,aM d,some (.int (bz.length:Int)),y4,y5]/\CL K aa H H6 D d xw iD fS/\bz.length<=iD.length/\(iD.length=bz.length->zk aa i iD))
   ⟨ts,bz,kvs,_,_,rfl,S,aD _,λ_ ru iS=>by simp at iS⟩ ?_ ?_ ?_
  .rintro i σ H6 _ ⟨xw,iD,fS,y4,y5,rfl,S2,_⟩;exact S2.sm.seq hR
  .rintro i x σ H6 t ex ⟨xw,iD,fS,y4,y5,rfl,S2,l2,c2⟩ ht
   ac_nf0
   rw [bo] at ex;obtain⟨r,er,rfl⟩:=cg.mp ex;obtain⟨ru,e1,p,v1,v2⟩:=cT.get er;have O2:=h8 ru (b8 e1);have S3:=S2.same (af ht (.tup [.int (i:Int),.ref r]));have OT:aR K (upd H6 t (.tup [.int (i:Int),.ref r])) t [.int (i:Int),.ref r]:=aR.of ae;generalize upd H6 t (.tup [.int (i:Int),.ref r])=H7 at S3 OT;obtain⟨lt2,Tq⟩:=S3.len;have el2:=S3.emp.len;have tk:aa.take (i+1)=aa.take i++[ru]:=by rw [cQ,e1];rfl
   have kX:(¬((∀p∈ru.2,p∈iD.map (·.1))/\ru.1∉iD.map (·.1)))->(iD.length=bz.length->zk aa (i+1) iD):=λhn z C7 yz hp=>by
    rw [tk] at yz;rcases cq.mp yz with h | h
    .exact c2 z C7 h hp
    rw [bC.mp h] at hp ⊢;exact Classical.byContradiction λhc=>hn ⟨hp,hc⟩
   refine⟨t,_,rfl,OT,rfl,_,_,rfl,_,_,rfl,rfl,?_⟩;refine⟨_,rfl,r,_,_,_,rfl,rfl,S3.sm.tup v1,rfl,?_⟩;refine⟨_,rfl,d,_,rfl,bX.k (k:=Sum.inr ru.1) S3.hd,_,rfl,?_⟩;refine cE (λc3=>?_) (λc3=>?_)
   .have nm:ru.1∉iD.map (·.1):=λh=>by rw [(S3.mem _).mpr h] at c3;exact absurd c3 nofun
    refine⟨_,rfl,r,_,_,_,rfl,rfl,S3.sm.tup v1,rfl,p,rfl,⟨_,S3.sm.tup v2⟩,λD2 i5=>u9 rfl (S3.sm.tup v2) ∅ S3.hd i5 λH8 OK RE=>?_⟩;have S4:=S3.same OK;refine⟨D2,_,rfl,aG.of RE,_,rfl,?_⟩;refine cE (λc4=>?_) (λc4=>?_)
    .have al:∀x∈ru.2,x∈iD.map (·.1):=λx hx=>(S4.mem x).mp (gr.mp c4 _ (j_ hx));refine⟨_,rfl,_,rfl,r,_,_,_,rfl,rfl,S4.sm.tup v1,rfl,d,_,rfl,pX.k (k:=Sum.inr ru.1) S4.hd (bF ∅),?_⟩;have v1':aR K (upd H8 d (.dK (bL fS (Sum.inr ru.1) (.bl true)))) r [.str ru.1,.ref p]:=hZ S4.hd (S4.sm.tup v1);have NW:upd H8 d (.dK (bL fS (Sum.inr ru.1) (.bl true))) D=some (.lst (xw.map V.ref)):=by rw [ai (λz=>by have:=S4.hD;rw [z,S4.hd] at this;cases this)];exact S4.hD
     refine⟨_,rfl,.inl ⟨rfl,_,aG.of NW⟩,_,rfl,r,_,_,_,rfl,rfl,v1',rfl,_,rfl,oK,λt2 jz=>?_⟩;refine⟨D,_,_,rfl,rfl,(by rw [ai (az NW jz)];exact NW),bF (by rw [av];omega),?_⟩;have S5:=S4.more hD ub e1 nm al jz;exact⟨xw++[t2],iD++[(ru.1,i)],_,_,_,rfl,S5,by rw [bp];omega,λz=>by rw [bp] at z;simp at z;omega⟩
    refine⟨xw,iD,fS,_,_,rfl,S4,l2,kX λ⟨ha,_⟩=>c4 (gr.mpr λb hb=>?_)⟩;obtain⟨x,hx,rfl⟩:=cy.mp hb;exact(S4.mem x).mpr (ha x hx)
   refine⟨xw,iD,fS,_,_,rfl,S3,l2,kX λ⟨_,hn⟩=>c3 ?_⟩;cases hq:(bf fS (Sum.inr ru.1)).isSome with
   | true=>exact absurd ((S3.mem _).mp hq) hn
   | false=>rfl
  rintro σ H6 ⟨xw,iD,fS,y4,y5,rfl,S2,l2,c2⟩;rw [av,a_ cT] at c2;exact⟨xw,iD,fS,_,_,rfl,S2,l2,c2⟩
 have c':=of_decide_eq_false (rB.mpr c);rw [av,lt] at c';exact⟨_,rfl,q D ts bz H5 hD S.sm S.hD S.ev S.emp (cl ∅)⟩
end
end gT
namespace M11
open PySem L2
def DZ (b:Str->Bool):List Str->Nat
 | []=>0
 | z::r=>if b z=true then DZ b r+1 else 1
theorem Cq (b:Str->Bool):∀zs:List Str,(∀z∈zs,b z=true)->DZ b zs=zs.length
 | [],_=>rfl
 | z::r,h=>by
  unfold DZ;rw [ax (h z cJ),Cq b r λx hx=>h x (cW _ hx)];rfl
theorem HN (b:Str->Bool):∀(zs:List Str) (i:Nat)(z:Str),(∀x∈zs.take i,b x=true)->zs[i]?=some z->¬b z=true->DZ b zs=i+1
 | y::r,0,z,_,e,n=>by
  cases e;unfold DZ;rw [aw n]
 | y::r,i+1,z,h,e,n=>by
  unfold DZ;rw [ax (h y (by rw [List.take_succ_cons];exact cJ)),HN b r i z (λx hx=>h x (by rw [List.take_succ_cons];exact cW _ hx)) e n]
theorem HM (b:Str->Bool):∀zs:List Str,DZ b zs<=zs.length
 | []=>aD _
 | z::r=>by
  have:=HM b r;unfold DZ;rw [dS]
  split <;> omega
def cnt (n:Nat):List V:=(List.range n).map λk:Nat=>V.int (k:Int)
end M11
namespace gT
open PySem L2 M11
section
def BM (K:a8):Sp:=λvs H Q _=>∃(R:Addr)(rs:List Addr)(aa:List au),vs=[.ref R]/\aG K H R (rs.map V.ref)/\bJ K H rs aa/\aa.length<=1000/\(∀ru∈aa,ru.2.length<=8)/\(aa.flatMap (·.2)).Nodup /\
 ∀H',aB H H'->Q .eV H'
def nO:aI ["strengths","met","way","words","word"] ["strengths"] (ay zX):=iT rfl rfl rfl rfl nofun
def Gq (F:iz K "refuse_twice" "refuse_twice" zX f fd)(T:Txt mg):bR P w K mg base fY 1 f fd ["strengths"] (BM K):=by
 refine F.ok nO (λvs H Q E h=>?_) (λeK A outer s H vs Q E hr h=>?_)
 .obtain⟨R,rs,aa,rfl,_⟩:=h;rfl
 obtain⟨R,rs,aa,rfl,hR,cT,br,h8,ND,q⟩:=h;have hu:=fX hr;refine⟨_,aj (aC (i:=1) nO.nd rfl (bB rfl) gQ)
  (ak (bK b9 rfl (aX (pv 0)) (gP rfl (aA (ao (i:=2) nO.nd rfl (bB rfl)) (aA (ao (i:=3) nO.nd rfl (bB rfl)) bV)))
   (ak (bK b9 rfl (fI (pv 3)) (ao (i:=4) nO.nd rfl (bB rfl))
    (aj (bU (dH (jc hu (pv 4) (pv 1))) (ak iN) aS) (ak (iC hu (pv 1) (pv 4) dW rfl))))))),?_⟩
 nofun
 intro e he;have B0:∀o,aB H (upd H e o):=λo=>af he o;have ll:=a_ cT
 let qF:pU:=λi σ H5=>∃(kvs:List (aL×V))(y3 y4 y5:Option V),σ=[aM R,aM e,y3,y4,y5]/\H5=upd H e (.dK kvs) /\
  kvs.map (·.1)=((aa.take i).flatMap (·.2)).map Sum.inr
 refine⟨_,rfl,R,rfl,⟨_,(B0 _).seq hR⟩,cR (xs:=rs.map V.ref) qF ⟨[],none,none,none,rfl,rfl,rfl⟩ ?_ ?_ ?_⟩
 .rintro i σ H5 _ ⟨kvs,y3,y4,y5,rfl,rfl,_⟩;exact(B0 _).seq hR
 .rintro i x σ H5 ex ⟨kvs,y3,y4,y5,rfl,rfl,hk⟩
  ac_nf0
  rw [bo] at ex;obtain⟨r,er,rfl⟩:=cg.mp ex;obtain⟨ru,e1,p,v1,v2⟩:=cT.get er;have li:=(bj.mp e1).1;have O2:=h8 ru (b8 e1);have eT:(aa.take (i+1)).flatMap (·.2)=(aa.take i).flatMap (·.2)++ru.2:=by
   rw [cQ,e1,qa];simp
  have lA:((aa.take i).flatMap (·.2)).length<=8 * i:=jv (aa.take i) i (by rw [dD];omega) λru iS=>h8 ru (qV iS);have ui:((aa.take i).flatMap (·.2)++ru.2).Nodup:=by
   have e2:aa.flatMap (·.2)=((aa.take i).flatMap (·.2)++ru.2)++(aa.drop (i+1)).flatMap (·.2):=by
    rw [<-eT,<-qa,vM]
   rw [e2] at ND;exact(j9.mp ND).1
  refine⟨r,_,rfl,(B0 _).tup v1,rfl,_,_,rfl,_,_,rfl,rfl,?_⟩
  let Bq:pU:=λj σ H6=>∃(kvs:List (aL×V))(y5:Option V),σ=[aM R,aM e,some (.str ru.1),aM p,y5]/\H6=upd H e (.dK kvs) /\
   kvs.map (·.1)=((aa.take i).flatMap (·.2)++ru.2.take j).map Sum.inr
  refine⟨_,rfl,p,rfl,⟨_,(B0 _).tup v2⟩,oz (xs:=ru.2.map V.str) Bq ⟨kvs,_,rfl,rfl,by rw [oU,iu];exact hk⟩ ?_ ?_ ?_⟩
  .rintro j σ H6 _ ⟨kvs,y5,rfl,rfl,_⟩;exact(B0 _).tup v2
  .rintro j x σ H6 pO ⟨kvs,y5,rfl,rfl,DN⟩
   ac_nf0
   rw [bo] at pO;obtain⟨z,ez,rfl⟩:=cg.mp pO;have lj:=(bj.mp ez).1;have eS:ru.2.take (j+1)=ru.2.take j++[z]:=by rw [cQ,ez];rfl
   have lk:kvs.length<=8 * i+8:=by
    have h1:=congrArg List.length DN;rw [av,av,bp,dD] at h1;omega
   have nz:z∉(aa.take i).flatMap (·.2)++ru.2.take j:=λhz=>by
    have e3:(aa.take i).flatMap (·.2)++ru.2=((aa.take i).flatMap (·.2)++ru.2.take j)++([z]++ru.2.drop (j+1)):=by
     rw [lV,<-lV (ru.2.take j),<-eS,vM]
    rw [e3] at ui;exact(j9.mp ui).2.2 z hz z (by simp) rfl
   have nk:¬(Sum.inr z:aL)∈kvs.map (·.1):=by rw [DN];exact λh=>nz (cN.mp h)
   refine⟨_,rfl,_,rfl,e,_,rfl,bX.k (k:=Sum.inr z) ae,_,rfl,?_⟩;refine cE (λc=>absurd ((dQ kvs _).mp c) nk) (λ_=>?_);refine⟨_,rfl,_,rfl,e,_,rfl,pX.k (k:=Sum.inr z) ae (bF ∅),?_⟩;refine⟨bL kvs (Sum.inr z) (.bl true),_,rfl,by rw [nF],?_⟩;rw [iB nk,DN,eS,<-lV];simp only [bG,cO,mn]
  rintro σ H6 ⟨kvs,y5,rfl,rfl,DN⟩;rw [av,cP,<-eT] at DN;exact⟨kvs,_,_,_,rfl,rfl,DN⟩
 rintro σ H5 ⟨kvs,y3,y4,y5,rfl,rfl,hk⟩;exact q _ (B0 _)
def xR (K:a8):Sp:=λvs H Q _=>∃(p d:Addr) (zs:List Str)(kvs:List (aL×V)),vs=[.ref p,.ref d]/\aR K H p (zs.map V.str)/\zs.length<=1000/\H d=some (.dK kvs) /\
 ∀D H',H D=none->aB H H'->H' D=some (.lst (cnt (DZ (λz=>(bf kvs (Sum.inr z)).isSome) zs)))->Q (.ref D) H'
def nQ:aI ["parts","empty","places","place","part"] ["parts","empty"] (ay wk):=iT rfl rfl rfl rfl nofun
def Dn (F:iz K "first_places" "first_places" wk f fd)(T:Txt mg):bR P w K mg base fY 1 f fd ["parts","empty"] (xR K):=by
 refine F.ok nQ (λvs H Q E h=>?_) (λeK A outer s H vs Q E hr h=>?_)
 .obtain⟨p,d,zs,kvs,rfl,_⟩:=h;rfl
 obtain⟨p,d,zs,kvs,rfl,hp,hz,hd,q⟩:=h;have hu:=fX hr;refine⟨_,aj (aC (i:=2) nQ.nd rfl (bB rfl) (bA ah))
  (aj (bK b9 rfl (nZ rfl T.Ko (ab (pv 0) ah)) (gP rfl (aA (ao (i:=3) nQ.nd rfl (bB rfl)) (aA (ao (i:=4) nQ.nd rfl (bB rfl)) bV)))
   (aj (cC (gR f_ gK gL bM (pv 2) (ab (pv 3) ah)))
   (ak (bU (dH (dX hu (pv 4) (pv 1))) (ak F6) aS))))
  (ak (aQ (pv 2)))),?_⟩
 nofun
 refine⟨rM,λD hD=>?_⟩;have up1:∀n,cnt n++[V.int (n:Int)]=cnt (n+1):=λn=>by
  unfold cnt;rw [List.range_succ,bG];rfl
 refine⟨_,rfl,p,_,rfl,(af hD _).tup hp,?_⟩
 let SE:pU:=λi σ H5=>∃(y3 y4:Option V),σ=[aM p,aM d,aM D,y3,y4]/\aB H H5/\H5 D=some (.lst (cnt i))/\∀z∈zs.take i,(bf kvs (Sum.inr z)).isSome=true
 refine pN (xs:=zs.map V.str) SE
  ⟨none,none,rfl,af hD _,ae,by simp⟩ ?_ ?_ ?_
 .rintro i σ H5 _ ⟨y3,y4,rfl,sm,_⟩;exact sm.tup hp
 .rintro i x σ H5 t ex ⟨y3,y4,rfl,sm,RF,qC⟩ ht
  ac_nf0
  rw [bo] at ex;obtain⟨z,ez,rfl⟩:=cg.mp ex;have li:=(bj.mp ez).1;have v8:=sm.trans (af ht (.tup [.int (i:Int),.str z]));have i5:upd H5 t (.tup [.int (i:Int),.str z]) D=some (.lst (cnt i)):=by rw [ai (az RF ht)];exact RF
  have hv:aR K (upd H5 t (.tup [.int (i:Int),.str z])) t [.int (i:Int),.str z]:=aR.of ae;generalize upd H5 t (.tup [.int (i:Int),.str z])=H6 at v8 i5 hv;have OL:aB H (upd H6 D (.lst (cnt i++[V.int (i:Int)]))):=λb o hb=>by
   rw [ai (λz=>by rw [z,hD] at hb;cases hb)];exact v8 b o hb
  refine⟨t,_,rfl,hv,rfl,_,_,rfl,_,_,rfl,rfl,?_⟩;refine⟨_,rfl,.inl ⟨rfl,_,aG.of i5⟩,_,rfl,D,_,_,rfl,rfl,i5,bF (by unfold cnt;rw [av,mz];omega),?_⟩;refine⟨_,rfl,_,rfl,d,_,rfl,bX.k (k:=Sum.inr z) (OL _ _ hd),_,rfl,?_⟩;refine cE (λc=>?_) (λc=>?_)
  .refine⟨_,rfl,q D _ hD OL ?_⟩;rw [ae,up1,HN _ zs i z qC ez (λh=>by rw [h] at c;exact absurd c nofun)]
  refine⟨_,_,rfl,OL,by rw [ae,up1],λx hx=>?_⟩;rw [cQ,ez] at hx;rcases cq.mp hx with h | h
  .exact qC x h
  rw [Option.toList_some,bC] at h;subst h;cases hq:(bf kvs (Sum.inr x)).isSome with
  | true=>rfl
  | false=>exact absurd (by rw [hq];rfl) c
 rintro σ H5 ⟨y3,y4,rfl,sm,RF,qC⟩;rw [av] at RF qC;rw [cP] at qC;exact⟨_,rfl,q D _ hD sm (by rw [Cq _ zs qC];exact RF)⟩
end
end gT
namespace L2
open PySem
section
variable {prog:Program}{w:World}{K:Type} [DecidableEq K] {knd:KeyKind prog w K}{A:Around}{E:Value->Shared->Prop}
def ur {s:Shared}{d l:Addr}{items:Array Value}{n:Nat}{kvs more:List (K×Value)}{Q:Value->Shared->Prop}(hh:A.handled=none)(ub:s.heap.DictOf knd d kvs)(hx:s.heap.get? l=some { cls:=.type "list",data:=.seq items n })
  (hi:items.size=more.length)(hp:∀(m:Nat) kv,more[m]?=some kv->∃u,items[m]?=some u/\mX knd s.heap u kv)(hz:kvs.length+more.length<=sizeLine)
  (h:∀h' t',h'.DictOf knd d (more.foldl (λa p=>stored a p.1 p.2) kvs)->(∀b o,b≠d->s.heap.get? b=some o->h'.get? b=some o)->Q .none { s with heap:=h',toks:=t' }) :
  wpAny (model prog w) A (call (.builtin "dict.update") [.ref d,.ref l]) Q E s:=by
 refine kO (vE zJ.plain PySem.F.entry_dict_update (zJ.check _ _ _ _ _ _ _ _ ub.typeIs (PySem.F.args_dict_update_2 _ _) ?_));unfold Builtin.«dict.update»;refine aq ?_;unfold Builtin.Dict.selfAndRest;refine aq (wpAny_notOrdered_dict ub.typeIs ?_);show wpAny _ _ (pure (d,[Value.ref l])) _ _ s;refine aH ?_;show wpAny _ _ (Builtin.Dict.updateFrom "dict.update" d (.ref l) [] .none) _ _ s;unfold Builtin.Dict.updateFrom;refine aq (jY (T := "list") ⟨_,hx,rfl⟩ ?_);rw [ax zQ];refine aq (pJ hx hh λh1 t1 k1=>?_);refine aq (il ?_);have l1:=k1 _ _ hx;refine aq (mx ⟨_,l1,rfl,_,rfl⟩ ?_);have k2:∀b o,s.heap.get? b=some o->(h1.push { cls:=.type "list_iterator",data:=.fields #[.ref l,.int 0 0] }).get? b=some o:=λb o q=>bH _ (k1 _ _ q);refine aH ⟨i9 fQ _,H_ (knd:=knd) (A:=A) (l:=l) (items:=items) hh more 0 _ kvs _ _ (by rw [hi,oP]) ?_ ⟨_,cA _ rfl,rfl,rfl⟩ ⟨_,k2 _ _ hx,rfl,n,rfl⟩ (λm kv e=>?_) hz λh' t' hd k3=>?_⟩
 .obtain⟨o,es,ep,q,r⟩:=ub;exact⟨o,es,ep,k2 _ _ q,r⟩
 .obtain⟨u,e1,e2⟩:=hp m kv e;exact⟨u,by rw [oP];exact e1,e2.keep λb o _ q=>k2 b o q⟩
 exact h h' t' hd λb o n q=>k3 b o n (bE (bu (k1 _ _ q))) (k2 b o q)
end
section
variable {X:Cx}{o e:Expr}{apos gU:Pos}{td ty:TE}
def P0 (K:a8)(td ty:TE):TE:=λσ H Q=>td σ H λx H1=>∃a,x=.ref a/\UC H1 a/\ty σ H1 λy H2=>∃l ts kvs more,y=.ref l/\H2 a=some (.dK kvs)/\H2 l=some (.lst (ts.map V.ref)) /\
 Paired (λt kv=>aR K H2 t [kV kv.1,kv.2]) ts more/\kvs.length+more.length<=sizeLine/\Q .eV (upd H2 a (.dK (df more kvs)))
def JI (hc:X.calm=true)(ho:PE X o td)(he:PE X e ty)(m:M1 X o "update" apos e gU):PE X (.Call (.Attribute o "update" apos) [e] [] gU) (P0 X.K td ty):=by
 intro ag s σ H Q I h;refine wpAny_Call_method m.base m.A4 m.line zH zJ PySem.F.type_dict_update (cX (ho ag s σ H _ I h) λu s1 bx=>?_);obtain⟨x,H1,I1,rx,a,ex,d,q1⟩:=bx;subst ex;obtain rfl:u=Value.ref a:=rx;obtain⟨t1,t2,_⟩:=AN I1 d;refine⟨t1,t2,?_⟩;rw [m.trees];refine rG rfl (vC (p_ (cX (he ag s1 σ H1 _ I1 q1) λiv s2 bx=>?_)));obtain⟨y,H2,I2,ry,l,ts,kvs,more,ey,ea,el,p,hz,q2⟩:=bx;refine oX ?_;subst ey;cases (show iv=Value.ref l from ry);obtain⟨z,DK,vs,rel,dd⟩:=yL I2.bZ ea;obtain⟨z2,aN,n,rv,hl⟩:=(show cM X.prog X.w H2 s2.heap l (.lst _) from I2.bZ l _ el);obtain⟨ms,r1,r2⟩:=pairs_at I2 p rv;have l1:=a_ r2;have l2:=r1.length;have l3:=a_ p;refine ur (I2.ok.hd hc) dd hl (by simpa using l1) (λm kv em=>?_) (by rw [<-rel.length,<-l2];exact hz) λh' t' hd kk=>?_
 .obtain⟨u,e1,e2⟩:=Paired.at_ r2 m kv em;exact⟨u,by simpa using e1,e2⟩
 have hn:(df more kvs).length<=sizeLine:=dI (tu more kvs) hz;have he:∃q,h'.get? a=some q:=let ⟨q,_,_,hq,_⟩:=hd;⟨q,hq⟩;exact⟨.eV,_,I2.write (x:=a) (e:=a) (by rw [ea];exact True.intro) (.inl rfl) (λb q hb z=>kk b q hb z) he (tH hn DK (tq r1 rel) hd),rfl,q2⟩
def vb {X:Cx}:ij X (.builtin "len") (λxs H Q=>∃a kvs,xs=[.ref a]/\H a=some (.dK kvs)/\Q (.int kvs.length) H):=by
 intro ag s σ H xs us Q I r h;obtain⟨a,kvs,rfl,e,q⟩:=h;obtain⟨u,rfl,rx⟩:=vals1 r;cases (show u=Value.ref a from rx);exact Sj I (.inl e) λt s' I'=>⟨.int _,H,I',⟨_,rfl⟩,q⟩
end
theorem yy:∀{us:List Value}{ns:List Int},PyProof.Rows.IntsAre us ns->∀ys:List (Int×Tok),us=ys.map (λp=>Value.int p.1 p.2)->ys.map (·.1)=ns
 | _,_,.nil,ys,e=>by
  cases ys with
  | nil=>rfl
  | cons _ _=>cases e
 | _,_,.cons n t h,ys,e=>by
  cases ys with
  | nil=>cases e
  | cons y r =>
   rw [cO] at e;injection e with e1 e2;injection e1 with e3 e4;rw [cO,yy h r e2,e3]
def u_ {X:Cx}(hc:X.calm=true):ij X (.builtin "sum") (λxs H Q=>∃a ns,xs=[.ref a]/\aG X.K H a (List.map V.int ns)/\Q (.int ns.sum) H):=by
 intro ag s σ H xs us Q I r h;obtain⟨a,ns,rfl,hq,q⟩:=h;obtain⟨u,rfl,rx⟩:=vals1 r;cases rx;obtain⟨aN,rv,pl,hz⟩:=I.list hq;have hi:=intsAre_of rv;have qC:AllInts aN.toArray:=hi.allInts;obtain⟨xs,e⟩:=qC.items;have hl:=pl.isList;rw [e] at hl;refine sum_intListG (I.ok.hd hc) hl λh' tk t' hk=>⟨.int _,H,I.kept hk,⟨_,rfl⟩,?_⟩;have e5:xs.toList.map (·.1)=ns:=yy hi xs.toList (by
  have:=congrArg Array.toList e;simpa [intItems] using this)
 have e6:preSum (numAt xs) xs.size=ns.sum:=by
  rw [preSum_eq,e5,qX (by rw [<-e5];simp)]
 rw [e6];exact q
def yQ {K:a8}{H:Hp}{p D:Addr}{zs:List Str}{σ:St}{v:V}{x:Str}{Qp:Hp->Prop}(hp:aR K H p (zs.map V.str))(hz:zs.length<=1000)(hD:H D=none)
  (q:∀ts H2,aB H H2->H2 D=some (.lst (ts.map V.ref))->Paired (λt h=>aR K H2 t [.str h,v]) ts zs->Qp H2) :
  ∃W:Nat->Nat->List V->St->Hp->Prop,(∃m,W 0 m [] (dO [x] [] σ) (upd H D (.lst []))) /\
 ∀i m ys σ' H,W i m ys σ' H->((oJ K p).stop i H/\Qp H)\/((oJ K p).go i H/\∃m',m' < m/\∀x H',(oJ K p).mE i H x H'->dM 0 x σ' H' λσ2 H2=>hX σ2 H2 λb H3 =>
  if b=true then ue (gM (gE 0) (gM (tC v) rP)) σ2 H3 λy H4=>H4 D=some (.lst ys)/\ys.length < sizeLine/\W (i+1) m' (ys++[y]) σ2 (upd H4 D (.lst (ys++[y]))) else W (i+1) m' ys σ2 H3):=by
 refine gB (xs:=zs.map V.str) (λi ys σ2 H2=>∃ts:List Addr,ys=ts.map V.ref/\ts.length=i/\Paired (λt h=>aR K H2 t [.str h,v]) ts (zs.take i)/\(∃y0,σ2=[y0])/\aB H H2/\H2 D=some (.lst ys))
  ⟨[],rfl,rfl,.nil,⟨none,rfl⟩,af hD _,ae⟩ (λi ys σ2 H2 _ h=>?_) (λi x ys σ2 H2 ex h=>?_) (λys σ2 H2 h=>?_)
 .obtain⟨_,_,_,_,_,sm,_⟩:=h;exact sm.tup hp
 .obtain⟨ts,rfl,ht,qA,⟨y0,rfl⟩,sm,hd⟩:=h;rw [bo] at ex;obtain⟨z,ez,rfl⟩:=cg.mp ex;have li:=(bj.mp ez).1;refine goN (yE ?_);refine⟨_,rfl,oK,λt jz=>⟨?_,bF (by rw [av];omega),ts++[t],?_,?_,?_,⟨_,rfl⟩,?_,ae⟩⟩
  .rw [ai (az hd jz)];exact hd
  .rw [bG];rfl
  .rw [bp,ht];rfl
  .rw [cQ,ez];have jf:upd H2 t (.tup [.str z,v]) D=some (.lst (ts.map V.ref)):=by rw [ai (az hd jz)];exact hd
   exact gX (Paired.eJ qA λt' h' z=>aW jf ((af jz _).tup z)) (aW jf (aR.of ae))
  intro b o hb;rw [ai (λz=>by rw [z,hD] at hb;cases hb)];exact af jz _ _ _ (sm b o hb)
 obtain⟨ts,rfl,ht,qA,_,sm,hd⟩:=h;rw [av,cP] at qA;exact q ts H2 sm hd qA
end L2
namespace M11
open PySem L2
def oI (a:List Str)(h x:Str):x∈ig a h↔x∈a\/x=h:=by
 unfold ig;split
 .constructor
  .exact .inl
  rintro(z | rfl) <;> assumption
 simp
def CG {a:List Str}(h:Str)(n:a.Nodup):(ig a h).Nodup:=by
 unfold ig;split
 .exact n
 rename_i q
 refine j9.mpr ⟨n,by simp,λx hx y hy=>?_⟩;rw [bC.mp hy];exact λz=>q (z ▸ hx)
def CH (a:List Str)(h:Str):a.length<=(ig a h).length:=by
 unfold ig;split <;> simp
def KL {a:List Str}{h:Str}(e:(ig a h).length=a.length):ig a h=a:=by
 unfold ig at e ⊢;split
 .rfl
 rename_i q
 rw [aw q,bp] at e;simp at e
theorem hV:∀(hs bI:List Str)(x:Str),x∈xi bI hs↔x∈bI\/x∈hs
 | [],bI,x=>by simp [xi]
 | h::r,bI,x=>by
  show x∈xi (ig bI h) r↔_;rw [hV r,oI,bY,or_assoc]
theorem pR:∀(hs:List Str){bI:List Str},bI.Nodup->(xi bI hs).Nodup
 | [],_,n=>n
 | h::r,_,n=>pR r (CG h n)
theorem Bb:∀(hs bI:List Str),bI.length<=(xi bI hs).length
 | [],_=>aD _
 | h::r,bI=>dI (CH bI h) (Bb r _)
theorem Ia:∀(hs bI:List Str),(xi bI hs).length=bI.length->xi bI hs=bI
 | [],_,_=>rfl
 | h::r,bI,e=>by
  have h1:=CH bI h;have h2:=Bb r (ig bI h);have e':(xi (ig bI h) r).length=bI.length:=e;show xi (ig bI h) r=bI;rw [Ia r _ ∅];exact KL ∅
inductive OD (aa:List au)(s:Str):Str->Prop
 | start:OD aa s s
 | step {ru:au}{x:Str}:OD aa s ru.1->ru∈aa->x∈ru.2->OD aa s x
def IB (aa:List au) (n:Nat) (ms:List Str):Prop:=∀ru∈aa.take n,ru.1∈ms->∀x∈ru.2,x∈ms
def OD.among {aa:List au}{s x:Str}(h:OD aa s x):x∈s::aa.flatMap (·.2):=by
 cases h with
 | start=>exact cJ
 | step _ h1 h2=>exact cW _ (ro.mpr ⟨_,h1,h2⟩)
end M11
namespace gT
open PySem L2 M11
section
def K3 (K:a8):Sp:=λvs H Q _=>∃(R:Addr)(rs:List Addr)(aa:List au)(lZ:au),vs=[.ref R]/\aG K H R (rs.map V.ref)/\bJ K H rs aa/\aa[0]?=some lZ/\aa.length<=1000/\(∀ru∈aa,ru.2.length<=8) /\
 ∀d kvs ms H',H d=none->aB H H'->H' d=some (.dK kvs)->kvs.map (·.1)=ms.map Sum.inr->lZ.1∈ms->(∀x∈ms,OD aa lZ.1 x)->IB aa aa.length ms->Q (.ref d) H'
def uI:aI ["rules","met","many","head","parts"] ["rules"] (ay ME):=iT rfl rfl rfl rfl nofun
structure Po (K:a8)(aa:List au)(s0:Str)(H H5:Hp)(d:Addr) (ms:List Str)(kvs:List (aL×V)):Prop where
 sm:aB H H5
 hd:H5 d=some (.dK kvs)
 keys:kvs.map (·.1)=ms.map Sum.inr
 nd:ms.Nodup
 st:s0∈ms
 Tf:∀x∈ms,OD aa s0 x
def Po.len {aa:List au}{s0:Str}{H H5:Hp}{d:Addr}{ms:List Str}{kvs:List (aL×V)}(h:Po K aa s0 H H5 d ms kvs)(hl:aa.length<=1000)(h8:∀ru∈aa,ru.2.length<=8):kvs.length=ms.length/\ms.length<=8001:=by
 refine⟨?_,?_⟩
 .have:=congrArg List.length h.keys;simpa using this
 have h1:=gA ms _ h.nd λx hx=>(h.Tf x hx).among;have h2:=jv aa 1000 hl h8;rw [dS] at h1;omega
def M8 (F:iz K "names_met" "names_met" ME f fd)(T:Txt mg):bR P w K mg base fY 1 f fd ["rules"] (K3 K):=by
 refine F.ok uI (λvs H Q E h=>?_) (λeK A outer s H vs Q E hr h=>?_)
 .obtain⟨R,rs,aa,lZ,rfl,_⟩:=h;rfl
 obtain⟨R,rs,aa,lZ,rfl,hR,cT,OV,br,h8,q⟩:=h;have hu:=fX hr;refine⟨_,aj (aC (i:=1) uI.nd rfl (bB rfl) (JJ (F8 (aP bq (aP bT (pv 0) ar (λ_ _=>rfl)) ar (λ_ _=>rfl)) dW JD) rfl rfl (by simp) (show 1<=15 by decide)))
  (aj (aC (i:=2) uI.nd rfl (bB rfl) ar)
  (aj (k9 b9 (bw qi (pv 2) (aF vb rfl T.len dJ (ab (pv 1) ah)) (bW _))
   (aj (aC (i:=2) uI.nd rfl (bB rfl) (aF vb rfl T.len dJ (ab (pv 1) ah)))
   (ak (bK b9 rfl (aX (pv 0)) (gP rfl (aA (ao (i:=3) uI.nd rfl (bB rfl)) (aA (ao (i:=4) uI.nd rfl (bB rfl)) bV)))
    (ak (bU (dH (jc hu (pv 3) (pv 1)))
     (ak (cC (JI rfl (pv 1) (ba ["part"] [] rfl (fI (pv 4)) (a9 rfl rfl) nofun rfl nofun
       (λ_ _ _ _ _=>ao (i:=0) (show (["part"]:List Str).Nodup by decide +kernel) rfl (bB rfl)) (λ_ _ _ _ _=>bQ) (λ_ _ _ _ _=>bS (ab (pv 0) (ab dW ah)))) ⟨rfl,rfl,rfl,rfl⟩))) aS))))))
  (ak (aQ (pv 1))))),?_⟩
 nofun
 intro d hd;have ll:=a_ cT;have l0:=(bj.mp OV).1;obtain⟨r0,er0⟩:∃r,rs[0]?=some r:=⟨rs[0]'∅,b_ ∅⟩;obtain⟨aaa,e0,p0,w1,w2⟩:=cT.get er0;rw [OV] at e0;cases e0;have Y4:=af hd (.dK []);refine⟨_,rfl,R,_,_,.ref r0,rfl,rfl,Y4.seq hR,?_,r0,_,_,_,rfl,rfl,Y4.tup w1,rfl,?_⟩
 .have e7:(rs.map V.ref)[0]?=some (.ref r0):=by rw [bo,er0];rfl
  exact cf (j:=0) e7
 refine⟨ae,[((Sum.inr lZ.1:aL),.bl true)],rfl,(by show 1<=15;decide),?_⟩;have S0:Po K aa lZ.1 H (upd (upd H d (.dK [])) d (.dK (mK [] [((Sum.inr lZ.1:aL),.bl true)]))) d [lZ.1] [((Sum.inr lZ.1:aL),.bl true)]:=by
  rw [nF];exact⟨af hd _,ae,rfl,by simp,by simp,λx hx=>by rw [bC.mp hx];exact .start⟩
 generalize upd (upd H d (.dK [])) d (.dK (mK [] [((Sum.inr lZ.1:aL),.bl true)]))=H0 at S0;refine⟨λm σ H5=>∃(ms:List Str)(kvs:List (aL×V)) (many:Int)(y3 y4:Option V),σ=[aM R,aM d,some (.int many),y3,y4]/\Po K aa lZ.1 H H5 d ms kvs/\0<=many/\many<=ms.length/\(many=ms.length->IB aa aa.length ms)/\(m:Int)=8002 - many,
  ⟨8002,[lZ.1],_,0,none,none,rfl,S0,∅,by simp,by simp,∅⟩,?_⟩
 rintro m σ H5 ⟨ms,kvs,many,y3,y4,rfl,S,b1,b2,cl,em⟩;obtain⟨lk,lm⟩:=S.len br h8;refine⟨_,rfl,_,rfl,d,_,rfl,S.hd,_,_,rfl,rfl,_,rfl,?_⟩;refine cE (λc=>?_) (λc=>?_)
 .have c':=dA c;rw [lk] at c';refine⟨λσ H5=>∃(qN:List Str)(fS:List (aL×V))(y3 y4:Option V),σ=[aM R,aM d,some (.int (ms.length:Int)),y3,y4]/\Po K aa lZ.1 H H5 d qN fS/\ms.length<=qN.length/\(qN.length=ms.length->IB aa aa.length qN),?_,?_⟩
  .rintro σ H6 ⟨qN,fS,y3,y4,rfl,S2,l2,c2⟩;exact⟨(8002 - ms.length:Int).toNat,∅,qN,fS,_,_,_,rfl,S2,∅,∅,λz=>c2 ∅,∅⟩
  refine⟨_,rfl,d,_,rfl,S.hd,?_⟩;rw [lk];refine⟨_,rfl,R,rfl,⟨_,S.sm.seq hR⟩,?_⟩;refine cR (xs:=rs.map V.ref) (λi σ H6=>∃(qN:List Str)(fS:List (aL×V))(y3 y4:Option V),σ=[aM R,aM d,some (.int (ms.length:Int)),y3,y4]/\Po K aa lZ.1 H H6 d qN fS/\ms.length<=qN.length/\(qN.length=ms.length->IB aa i qN))
   ⟨ms,kvs,_,_,rfl,S,aD _,λ_ ru iS=>by simp at iS⟩ ?_ ?_ ?_
  .rintro i σ H6 _ ⟨qN,fS,y3,y4,rfl,S2,_⟩;exact S2.sm.seq hR
  .rintro i x σ H6 ex ⟨qN,fS,y3,y4,rfl,S2,l2,c2⟩
   ac_nf0
   rw [bo] at ex;obtain⟨r,er,rfl⟩:=cg.mp ex;obtain⟨ru,e1,p,v1,v2⟩:=cT.get er;have O2:=h8 ru (b8 e1);have tk:aa.take (i+1)=aa.take i++[ru]:=by rw [cQ,e1];rfl
   obtain⟨Tq,lm2⟩:=S2.len br h8;have mem:(bf fS (Sum.inr ru.1)).isSome=true↔ru.1∈qN:=by rw [dQ,S2.keys];exact cN
   refine⟨r,_,rfl,S2.sm.tup v1,rfl,_,_,rfl,_,_,rfl,rfl,?_⟩;refine⟨_,rfl,_,rfl,d,_,rfl,bX.k (k:=Sum.inr ru.1) S2.hd,_,rfl,?_⟩;refine cE (λc3=>?_) (λc3=>?_)
   .have im:=mem.mp c3;refine⟨_,rfl,d,rfl,.inl ⟨_,.inl S2.hd⟩,_,rfl,p,rfl,⟨_,S2.sm.tup v2⟩,λD2 i5=>yQ (S2.sm.tup v2) ∅ i5 λts H8 OK RE Z6=>?_⟩;have kp:Paired (λt (kv:aL×V)=>aR K H8 t [kV kv.1,kv.2]) ts (ru.2.map λh=>((Sum.inr h:aL),V.bl true)):=cu Z6 λ_ _ z=>z;refine⟨D2,ts,fS,_,rfl,OK _ _ S2.hd,RE,kp,fits (by rw [av];omega),?_⟩;have aan:=Bb ru.2 qN;refine⟨xi qN ru.2,df (ru.2.map λh=>((Sum.inr h:aL),V.bl true)) fS,_,_,rfl,⟨λb o hb=>?_,ae,n_ ru.2 fS qN S2.keys,pR ru.2 S2.nd,(hV ru.2 qN _).mpr (.inl S2.st),λx hx=>?_⟩,∅,λz C7 yz hh=>?_⟩
    .rw [ai (λz=>by rw [z,hd] at hb;cases hb)];exact OK _ _ (S2.sm b o hb)
    .rcases (hV ru.2 qN x).mp hx with h | h
     .exact S2.Tf x h
     exact .step (S2.Tf _ im) (b8 e1) h
    have e9:=Ia ru.2 qN ∅;rw [e9] at hh ⊢;rw [tk] at yz;rcases cq.mp yz with h | h
    .exact c2 ∅ C7 h hh
    rw [bC.mp h];intro x hx;rw [<-e9];exact(hV ru.2 qN x).mpr (.inr hx)
   refine⟨qN,fS,_,_,rfl,S2,l2,λz C7 yz hh=>?_⟩;rw [tk] at yz;rcases cq.mp yz with h | h
   .exact c2 z C7 h hh
   rw [bC.mp h] at hh;exact absurd (mem.mpr hh) c3
  rintro σ H6 ⟨qN,fS,y3,y4,rfl,S2,l2,c2⟩;rw [av,ll] at c2;exact⟨qN,fS,_,_,rfl,S2,l2,c2⟩
 have c':=of_decide_eq_false (rB.mpr c);rw [lk] at c';exact⟨_,rfl,q d kvs ms H5 hd S.sm S.hd S.keys S.st S.Tf (cl ∅)⟩
end
end gT
namespace M11
open PySem L2
abbrev G:=Str->Option Int
def eG (g:G)(h:Str) (n:Int):G:=λz=>if z=h then some n else g z
def aT (g:G)(ru:au):Int:=1+(ru.2.map λp=>(g p).getD 0).sum
def lJ (g:G)(ru:au):Bool:=ru.2.all λp=>(g p).isSome
def cU (bt:Int->Int->Bool)(g:G)(ru:au):Bool:=lJ g ru && (!(g ru.1).isSome || bt (aT g ru) ((g ru.1).getD 0))
def sstep (bt:Int->Int->Bool)(a:G×Bool)(ru:au):G×Bool:=if cU bt a.1 ru=true then (eG a.1 ru.1 (aT a.1 ru),true) else a
def uf (bt:Int->Int->Bool)(aa:List au)(g:G):G×Bool:=aa.foldl (sstep bt) (g,false)
inductive eF (bt:Int->Int->Bool)(aa:List au):G->G->Prop
 | refl {g:G}:eF bt aa g g
 | step {g g1:G}{ru:au}:eF bt aa g g1->ru∈aa->cU bt g1 ru=true->eF bt aa g (eG g1 ru.1 (aT g1 ru))
def i6 (bt:Int->Int->Bool)(aa:List au)(g:G):Prop:=∀ru∈aa,cU bt g ru=false
def pW (bt:Int->Int->Bool)(aa:List au):Nat->G->Prop
 | 0,g=>(uf bt aa g).2=false
 | n+1,g=>(uf bt aa g).2=false\/pW bt aa n (uf bt aa g).1
def eF.trans {bt:Int->Int->Bool}{aa:List au}{g g1 g2:G}(h:eF bt aa g g1)(k:eF bt aa g1 g2):eF bt aa g g2:=by
 induction k with
 | refl=>exact h
 | step _ a b ih=>exact .step ih a b
theorem sY (bt:Int->Int->Bool)(aa:List au):∀(l:List au)(a:G×Bool),(∀ru∈l,ru∈aa)->eF bt aa a.1 (l.foldl (sstep bt) a).1
 | [],a,_=>.refl
 | ru::l,a,h=>by
  have ih:=sY bt aa l (sstep bt a ru) λx hx=>h x (cW _ hx);refine eF.trans ?_ ih;unfold sstep;by_cases c:cU bt a.1 ru=true
  .rw [ax c];exact .step .refl (h ru cJ) c
  rw [aw c];exact .refl
theorem uX (bt:Int->Int->Bool):∀(l:List au)(a:G×Bool),a.2=true->(l.foldl (sstep bt) a).2=true
 | [],a,h=>h
 | ru::l,a,h=>by
  refine uX bt l (sstep bt a ru) ?_;unfold sstep
  split
  .rfl
  exact h
theorem s_ (bt:Int->Int->Bool):∀(l:List au)(a:G×Bool),(l.foldl (sstep bt) a).2=false->(l.foldl (sstep bt) a).1=a.1/\∀ru∈l,cU bt a.1 ru=false
 | [],a,_=>⟨rfl,λ_ h=>nomatch h⟩
 | ru::l,a,h=>by
  by_cases c:cU bt a.1 ru=true
  .have e:sstep bt a ru=(eG a.1 ru.1 (aT a.1 ru),true):=ax c;have h':(l.foldl (sstep bt) (sstep bt a ru)).2=false:=h;rw [e,uX bt l _ rfl] at h';cases h'
  have e:sstep bt a ru=a:=aw c;have h':(l.foldl (sstep bt) (sstep bt a ru)).2=false:=h;rw [e] at h';obtain⟨i1,i2⟩:=s_ bt l a h';refine⟨by rw [List.foldl_cons,e];exact i1,λC7 hr=>?_⟩;rcases bY.mp hr with z | z
  .rw [z];exact rB.mpr c
  exact i2 C7 z
end M11
namespace L2
open PySem M11
def cY.tup {K:a8}{H H':Hp}{d a:Addr}{kvs:List (aL×V)}{xs:List V}(s:cY d H H')(hd:H d=some (.dK kvs))(h:aR K H a xs):aR K H' a xs:=by
 rcases h with (h | ⟨u,h⟩) | h
 .exact .inl (.inl (s _ _ (λz=>by rw [z,hd] at h;cases h) h))
 .exact .inl (.inr ⟨u,s _ _ (λz=>by rw [z,hd] at h;cases h) h⟩)
 exact .inr h
def cY.seq {K:a8}{H H':Hp}{d a:Addr}{kvs:List (aL×V)}{xs:List V}(s:cY d H H')(hd:H d=some (.dK kvs))(h:aG K H a xs):aG K H' a xs:=by
 rcases h with (h | ⟨u,h⟩) | h
 .exact .inl (.inl (s _ _ (λz=>by rw [z,hd] at h;cases h) h))
 .exact .inl (.inr ⟨u,s _ _ (λz=>by rw [z,hd] at h;cases h) h⟩)
 exact .inr h
def Ew {K:a8}{H:Hp}{p D d:Addr}{zs:List Str}{kvs:List (aL×V)}{g:G}{σ:St}{js:List (Nat×Str)}{Qp:Hp->Prop}(hσ:dO ["part"] js σ=[none,aM d])(hp:aR K H p (zs.map V.str))(hz:zs.length<=1000)
  (hd:H d=some (.dK kvs))(hv:∀z,bf kvs (Sum.inr z)=(g z).map V.int)(ha:∀z∈zs,(g z).isSome=true)(hD:H D=none)(q:∀H2,aB H H2->H2 D=some (.lst ((zs.map λz=>(g z).getD 0).map V.int))->Qp H2) :
  ∃W:Nat->Nat->List V->St->Hp->Prop,(∃m,W 0 m [] (dO ["part"] js σ) (upd H D (.lst []))) /\
 ∀i m ys σ' H,W i m ys σ' H->((oJ K p).stop i H/\Qp H)\/((oJ K p).go i H/\∃m',m' < m/\∀x H',(oJ K p).mE i H x H'->dM 0 x σ' H' λσ2 H2=>hX σ2 H2 λb H3 =>
  if b=true then Bz (gE 1) (gE 0) σ2 H3 λy H4=>H4 D=some (.lst ys)/\ys.length < sizeLine/\W (i+1) m' (ys++[y]) σ2 (upd H4 D (.lst (ys++[y]))) else W (i+1) m' ys σ2 H3):=by
 refine gB (xs:=zs.map V.str) (λi ys σ2 H2=>ys=(((zs.take i).map λz=>(g z).getD 0).map V.int)/\(∃y0,σ2=[y0,aM d])/\aB H H2/\H2 D=some (.lst ys))
  ⟨rfl,⟨none,hσ⟩,af hD _,ae⟩ (λi ys σ2 H2 _ h=>h.2.2.1.tup hp) (λi x ys σ2 H2 ex h=>?_) (λys σ2 H2 h=>?_)
 .obtain⟨rfl,⟨y0,rfl⟩,sm,hd2⟩:=h;rw [bo] at ex;obtain⟨z,ez,rfl⟩:=cg.mp ex;have li:=(bj.mp ez).1;obtain⟨n,en⟩:=lX.mp (ha z (b8 ez));have hg:bX H2 d (.str z) (some (.int n)):=by
   have:=bX.k (k:=Sum.inr z) (sm _ _ hd);rw [hv,en] at this;exact this
  refine goN (yE ?_);refine⟨_,rfl,_,rfl,d,_,rfl,hg,hd2,bF (by rw [av,av,dD];omega),?_,⟨_,rfl⟩,?_,ae⟩
  .rw [cQ,ez,bG,bG];show _=_++[V.int ((g z).getD 0)];rw [en];rfl
  intro b o hb;rw [ai (λz=>by rw [z,hD] at hb;cases hb)];exact sm b o hb
 obtain⟨rfl,_,sm,hd2⟩:=h;rw [av,cP] at hd2;exact q H2 sm hd2
end L2
namespace gT
open PySem L2 M11
section
def iI (K:a8)(q:Str)(params:Arguments)(body:Expr)(scope:Scope)(bt:Int->Int->Bool):Sp:=λvs H Q _=>∃(R:Addr)(rs:List Addr)(aa:List au)(d fl c':Addr)(pm gG:Value)(kvs:List (aL×V)) (ks:List Str)(g:G),
 vs=[.ref R,.ref d,.ref fl]/\aG K H R (rs.map V.ref)/\bJ K H rs aa/\aa.length<=1000/\(∀ru∈aa,ru.2.length<=8)/\H d=some (.dK kvs)/\kvs.map (·.1)=ks.map Sum.inr/\ks.Nodup/\ks.length<=10000 /\
 (∀z,bf kvs (Sum.inr z)=(g z).map V.int)/\(∃n,pW bt aa n g)/\H fl=some (pH fl (PySem.W.kla_obj "<lambda>" q params body scope [] pm c' gG))/\H c'=some (kj c' q) /\
 ∀(mP:List (aL×V)) (QR:List Str)(g':G)(H':Hp),cY d H H'->H' d=some (.dK mP)->mP.map (·.1)=QR.map Sum.inr->(∀z,bf mP (Sum.inr z)=(g' z).map V.int)->eF bt aa g g'->i6 bt aa g'->mP.length<=20000->Q (.ref d) H'
def iJ:aI ["rules","sizes","better","changed","head","parts","size"] ["rules","sizes","better"] (ay nW):=iT rfl rfl rfl rfl nofun
structure xA (K:a8)(aa:List au) (IM:List Str)(H H5:Hp)(d:Addr)(kvs:List (aL×V)) (ks:List Str)(g:G):Prop where
 sm:cY d H H5
 hd:H5 d=some (.dK kvs)
 keys:kvs.map (·.1)=ks.map Sum.inr
 nd:ks.Nodup
 sub:∀x∈ks,x∈IM++aa.map (·.1)
 val:∀z,bf kvs (Sum.inr z)=(g z).map V.int
def xA.len {aa:List au}{IM:List Str}{H H5:Hp}{d:Addr}{kvs:List (aL×V)}{ks:List Str}{g:G}(h:xA K aa IM H H5 d kvs ks g):kvs.length<=IM.length+aa.length:=by
 have h1:=congrArg List.length h.keys;have h2:=gA ks _ h.nd h.sub;rw [bp,av] at h2;rw [av,av] at h1;omega
def xA.same {aa:List au}{IM:List Str}{H H5 H6:Hp}{d:Addr}{kvs:List (aL×V)}{ks:List Str}{g:G}(h:xA K aa IM H H5 d kvs ks g)(s:aB H5 H6):xA K aa IM H H6 d kvs ks g :=
 ⟨λb o n e=>s _ _ (h.sm b o n e),s _ _ h.hd,h.keys,h.nd,h.sub,h.val⟩
def xA.put {aa:List au}{IM:List Str}{H H5:Hp}{d:Addr}{kvs:List (aL×V)}{ks:List Str}{g:G}(h:xA K aa IM H H5 d kvs ks g){ru:au}(hr:ru∈aa) (n:Int) :
  xA K aa IM H (upd H5 d (.dK (bL kvs (Sum.inr ru.1) (.int n)))) d (bL kvs (Sum.inr ru.1) (.int n)) (ig ks ru.1) (eG g ru.1 n):=by
 refine⟨λb o nb e=>by rw [ai nb];exact h.sm b o nb e,ae,lB h.keys ru.1,CG ru.1 h.nd,λx hx=>?_,λz=>?_⟩
 .rcases (oI ks ru.1 x).mp hx with z | z
  .exact h.sub x z
  rw [z];exact fU _ (j_ hr)
 rw [rN];unfold eG;by_cases c:z=ru.1
 .rw [ax c,ax (by rw [c])];rfl
 rw [aw c,aw (λe=>c (ml e)),h.val]
def uO (F:iz K "settled_sizes" "settled_sizes" nW f fd)(T:Txt mg){q:Str}{params:Arguments}{body:Expr}{scope:Scope}{bt:Int->Int->Bool}{te:TE}(S:aI ["size","known"] ["size","known"] scope)
  (oo:∀(pm gG:Value)(c':Addr)(us:List Value),us.length=(["size","known"]:List Str).length->bindArgs (PySem.W.kla_fn "<lambda>" q params body scope [] pm (.ref c') gG) ⟨us,[]⟩=pure ((["size","known"]:List Str).zip us))
  (jt:∀(f c':Addr)(A:Around)(outer:List Env)(s:Shared)(H:Hp),PE (pS fY P w K mg base ["size","known"] q scope f (.ref c') A outer s H λ_ _ _=>False) body te)
  (Q5:∀a b H Q,Q (.bl (bt a b)) H->te [some (.int a),some (.int b)] H Q):bR P w K mg base fY 2 f fd ["rules","sizes","better"] (iI K q params body scope bt):=by
 refine F.ok iJ (λvs H Q E h=>?_) (λeK A outer s H vs Q E hr h=>?_)
 .obtain⟨R,rs,aa,d,fl,c',pm,gG,kvs,ks,g,rfl,_⟩:=h;rfl
 obtain⟨R,rs,aa,d,fl,c',pm,gG,kvs,ks,g,rfl,hR,cT,br,h8,hd,hk,ND,hkl,hv,⟨n0,TN⟩,Hv,mS,qq⟩:=h;have hu:=fX hr;refine⟨_,aj (aC (i:=3) iJ.nd rfl (bB rfl) dW)
  (aj (k9 b9 (dG (pv 3))
   (aj (aC (i:=3) iJ.nd rfl (bB rfl) dW)
   (ak (bK b9 rfl (aX (pv 0)) (gP rfl (aA (ao (i:=4) iJ.nd rfl (bB rfl)) (aA (ao (i:=5) iJ.nd rfl (bB rfl)) bV)))
    (ak (bU (dG (aF (gC rfl) rfl T.all boot_all (ab (ba ["part"] [(1,"sizes")] rfl (fI (pv 5)) (a9 rfl rfl) nofun rfl nofun
       (λ_ _ _ _ _=>ao (i:=0) (show (["part","sizes"]:List Str).Nodup by decide +kernel) rfl (bB rfl)) (λ_ _ _ _ _=>bQ) (λ_ _ _ _ _=>sG (jc hu (pv 0) (pv 1)))) ah)))
     (aj (aC (i:=6) iJ.nd rfl (bB rfl) (aZ fZ ar (aF (u_ rfl) rfl T.sum PyProof.Rows.boot_sum (ab (ba ["part"] [(1,"sizes")] rfl (fI (pv 5)) (a9 rfl rfl) nofun rfl nofun
       (λ_ _ _ _ _=>ao (i:=0) (show (["part","sizes"]:List Str).Nodup by decide +kernel) rfl (bB rfl)) (λ_ _ _ _ _=>bQ) (λ_ _ _ _ _=>eI hu (pv 1) (pv 0) (λ_ _=>rfl))) ah))))
     (ak (bU (PW.pt (kZ (dH (dX hu (pv 4) (pv 1))) (jK (dG (An (i:=2) (k:=0) rfl rfl S hr oo jt (ab (pv 6) (ab (eI hu (pv 1) (pv 4) (λ_ _=>rfl)) ah)))))))
      (aj (iC hu (pv 1) (pv 4) (pv 6) rfl) (ak (aC (i:=3) iJ.nd rfl (bB rfl) dW))) aS))) aS))))))
  (ak (aQ (pv 1)))),?_⟩
 nofun
 have ll:=a_ cT;have S0:xA K aa ks H H d kvs ks g:=⟨λ_ _ _ e=>e,hd,hk,ND,λx hx=>iH _ hx,hv⟩;refine⟨λm σ H5=>∃(fS:List (aL×V)) (Tw:List Str)(g2:G)(ch:Bool)(y4 y5 y6:Option V),σ=[aM R,aM d,aM fl,some (.bl ch),y4,y5,y6]/\xA K aa ks H H5 d fS Tw g2/\eF bt aa g g2 /\
  ((ch=true/\∃n,m=n+1/\pW bt aa n g2)\/(ch=false/\i6 bt aa g2)),⟨n0+1,kvs,ks,g,true,none,none,none,rfl,S0,.refl,.inl ⟨rfl,n0,rfl,TN⟩⟩,?_⟩
 rintro m σ H5 ⟨fS,Tw,g2,ch,y4,y5,y6,rfl,S2,EM,cs⟩;refine⟨_,rfl,ch,rfl,?_⟩;refine cE (λc=>?_) (λc=>?_)
 .rcases cs with ⟨_,n,em,en⟩ | ⟨c',_⟩
  case inr=>rw [c'] at c;cases c
  refine⟨λσ H6=>∃(mN:List (aL×V)) (ET:List Str)(g3:G)(yY:Bool)(y4 y5 y6:Option V),σ=[aM R,aM d,aM fl,some (.bl yY),y4,y5,y6]/\xA K aa ks H H6 d mN ET g3/\(g3,yY)=uf bt aa g2,?_,?_⟩
  .rintro σ H6 ⟨mN,ET,g3,yY,y4,y5,y6,rfl,S3,e3⟩;have X3:g3=(uf bt aa g2).1:=congrArg Prod.fst e3;have Oo:yY=(uf bt aa g2).2:=congrArg Prod.snd e3;have P6:eF bt aa g g3:=by
    rw [X3];exact EM.trans (sY bt aa aa (g2,false) λ_ h=>h)
   cases h3:yY with
   | false =>
    rw [h3] at Oo;obtain⟨f1,f2⟩:=s_ bt aa (g2,false) Oo.symm;refine⟨0,∅,mN,ET,g3,false,_,_,_,rfl,S3,P6,.inr ⟨rfl,?_⟩⟩;have e33:g3=g2:=X3.trans f1;rw [e33];exact f2
   | true =>
    rw [h3] at Oo;cases n with
    | zero=>rw [show (uf bt aa g2).2=false from en] at Oo;cases Oo
    | succ n' =>
     rcases en with en | en
     .rw [en] at Oo;cases Oo
     exact⟨n'+1,∅,mN,ET,g3,true,_,_,_,rfl,S3,P6,.inl ⟨rfl,n',rfl,by rw [X3];exact en⟩⟩
  refine⟨_,rfl,R,rfl,⟨_,S2.sm.seq hd hR⟩,?_⟩;refine cR (xs:=rs.map V.ref) (λi σ H6=>∃(mN:List (aL×V)) (ET:List Str)(g3:G)(yY:Bool)(y4 y5 y6:Option V),σ=[aM R,aM d,aM fl,some (.bl yY),y4,y5,y6]/\xA K aa ks H H6 d mN ET g3/\(g3,yY)=(aa.take i).foldl (sstep bt) (g2,false))
   ⟨fS,Tw,g2,false,_,_,_,rfl,S2,rfl⟩ ?_ ?_ ?_
  .rintro i σ H6 _ ⟨mN,ET,g3,yY,y4,y5,y6,rfl,S3,_⟩;exact S3.sm.seq hd hR
  .rintro i x σ H6 ex ⟨mN,ET,g3,yY,y4,y5,y6,rfl,S3,e3⟩;rw [bo] at ex;obtain⟨r,er,rfl⟩:=cg.mp ex;obtain⟨ru,e1,p,v1,v2⟩:=cT.get er;have jU:=b8 e1;have O2:=h8 ru jU;have fo:(aa.take (i+1)).foldl (sstep bt) (g2,false)=sstep bt (g3,yY) ru:=by
    rw [cQ,e1,vB,<-e3];rfl
   rw [fo];have UT:=S3.sm.tup hd v2;refine⟨r,_,rfl,S3.sm.tup hd v1,rfl,_,_,rfl,_,_,rfl,rfl,?_⟩;refine⟨_,rfl,p,rfl,⟨_,UT⟩,λD2 i5=>u9 rfl UT ∅ S3.hd i5 λH7 Y3 hd7=>?_⟩;have S4:=S3.same Y3;have v4:=Y3.tup UT;have eb:(ru.2.map λz=>(bf mN (Sum.inr z)).isSome).all id=lJ g3 ru:=by
    unfold lJ;rw [List.all_map];refine List.all_congr rfl λz=>?_;show (bf mN (Sum.inr z)).isSome=_;rw [S3.val,o8]
   refine⟨D2,_,rfl,aG.of hd7,_,rfl,?_⟩;rw [eb];refine cE (λc4=>?_) (λc4=>?_)
   .have al:∀z∈ru.2,(g3 z).isSome=true:=λz hz=>gr.mp c4 z hz;refine⟨_,rfl,p,rfl,⟨_,v4⟩,λD3 yC=>Ew (g:=g3) rfl v4 ∅ S4.hd S4.val al yC λH8 OK RE=>?_⟩;have S5:=S4.same OK;have esz:1+(ru.2.map λz=>(g3 z).getD 0).sum=aT g3 ru:=rfl;refine⟨D3,_,rfl,aG.of RE,_,_,rfl,rfl,?_⟩;have mem:(bf mN (Sum.inr ru.1)).isSome=(g3 ru.1).isSome:=by rw [S5.val,o8]
    have fl5:=S5.sm fl _ (λz=>by rw [z,hd] at Hv;cases Hv) Hv;have c5':=S5.sm c' _ (λz=>by rw [z,hd] at mS;cases mS) mS;have l5:=S5.len;refine⟨_,rfl,_,rfl,d,_,rfl,bX.k (k:=Sum.inr ru.1) S5.hd,_,rfl,?_⟩;refine cE (λc5=>?_) (λc5=>?_)
    .have fr:cU bt g3 ru=true:=by
      unfold cU;rw [<-mem,c4,c5];rfl
     refine⟨_,rfl,_,rfl,_,rfl,d,_,rfl,pX.k (k:=Sum.inr ru.1) S5.hd (bF ∅),?_⟩;exact⟨_,_,eG g3 ru.1 (aT g3 ru),true,_,_,_,rfl,S5.put jU (aT g3 ru),(ax fr).symm⟩
    have isS:(g3 ru.1).isSome=true:=by
     rw [mem] at c5;cases hq:(g3 ru.1).isSome with
     | true=>rfl
     | false=>rw [hq] at c5;exact absurd rfl c5
    obtain⟨k,ek⟩:=lX.mp isS;have hg:bX H8 d (.str ru.1) (some (.int k)):=by
     have:=bX.k (k:=Sum.inr ru.1) S5.hd;rw [S5.val,ek] at this;exact this
    refine⟨fl,pm,c',gG,rfl,_,rfl,_,rfl,_,rfl,d,_,rfl,hg,fl5,c5',rfl,Q5 (aT g3 ru) k _ _ ⟨_,rfl,?_⟩⟩;refine cE (λc6=>?_) (λc6=>?_)
    .have fr:cU bt g3 ru=true:=by
      unfold cU;rw [c4,ek];show (true && (false || bt (aT g3 ru) k))=true
      rw [c6];rfl
     refine⟨_,rfl,_,rfl,_,rfl,d,_,rfl,pX.k (k:=Sum.inr ru.1) S5.hd (bF ∅),?_⟩;exact⟨_,_,eG g3 ru.1 (aT g3 ru),true,_,_,_,rfl,S5.put jU (aT g3 ru),(ax fr).symm⟩
    have fr:¬cU bt g3 ru=true:=by
     unfold cU;rw [c4,ek];show ¬(true && (false || bt (aT g3 ru) k))=true
     rw [rB.mpr c6];exact nofun
    exact⟨mN,ET,g3,yY,_,_,_,rfl,S5,(aw fr).symm⟩
   have e5:sstep bt (g3,yY) ru=(g3,yY):=aw (λz=>c4 (by unfold cU at z;exact(fk.mp z).1));exact⟨mN,ET,g3,yY,_,_,_,rfl,S4,e5.symm⟩
  rintro σ H6 ⟨mN,ET,g3,yY,y4,y5,y6,rfl,S3,e3⟩;rw [av,ll,cP] at e3;exact⟨mN,ET,g3,yY,_,_,_,rfl,S3,e3⟩
 rcases cs with ⟨c',_⟩ | ⟨_,se⟩
 .rw [c'] at c;exact absurd rfl c
 exact⟨_,rfl,qq fS Tw g2 H5 S2.sm S2.hd S2.keys S2.val EM se (by have:=S2.len;omega)⟩
end
end gT
namespace M11
open PySem L2
theorem fold_lt {bt:Int->Int->Bool}{aa:List au}{J:G->Prop}{r:G->G->Prop}(tr:∀a b c,r a b->r b c->r a c)
  (mZ:∀g ru,J g->ru∈aa->cU bt g ru=true->J (eG g ru.1 (aT g ru))/\r (eG g ru.1 (aT g ru)) g) :
  ∀(l:List au)(a:G×Bool),(∀ru∈l,ru∈aa)->J a.1->J (l.foldl (sstep bt) a).1/\(l.foldl (sstep bt) a=a\/r (l.foldl (sstep bt) a).1 a.1)
 | [],a,_,j=>⟨j,.inl rfl⟩
 | ru::l,a,h,j=>by
  by_cases c:cU bt a.1 ru=true
  .have e:sstep bt a ru=(eG a.1 ru.1 (aT a.1 ru),true):=ax c;obtain⟨j1,r1⟩:=mZ a.1 ru j (h ru cJ) c;obtain⟨j2,r2⟩:=fold_lt tr mZ l (eG a.1 ru.1 (aT a.1 ru),true) (λx hx=>h x (cW _ hx)) j1;rw [List.foldl_cons,e];refine⟨j2,.inr ?_⟩;rcases r2 with r2 | r2
   .rw [r2];exact r1
   exact tr _ _ _ r2 r1
  have e:sstep bt a ru=a:=aw c;rw [List.foldl_cons,e];exact fold_lt tr mZ l a (λx hx=>h x (cW _ hx)) j
def yK {bt:Int->Int->Bool}{aa:List au}{J:G->Prop}{r:G->G->Prop}(tr:∀a b c,r a b->r b c->r a c)
  (mZ:∀g ru,J g->ru∈aa->cU bt g ru=true->J (eG g ru.1 (aT g ru))/\r (eG g ru.1 (aT g ru)) g){g:G}(h:Acc r g)(j:J g):∃n,pW bt aa n g:=by
 induction h with
 | intro g _ ih =>
  cases c:(uf bt aa g).2 with
  | false=>exact⟨0,c⟩
  | true =>
   obtain⟨j2,r2⟩:=fold_lt tr mZ aa (g,false) (λ_ h=>h) j;have r3:r (uf bt aa g).1 g:=by
    rcases r2 with r2 | r2
    .have e:(uf bt aa g)=(g,false):=r2;rw [e] at c;cases c
    exact r2
   obtain⟨n,hn⟩:=ih _ r3 j2;exact⟨n+1,.inr hn⟩
def eF.keep {bt:Int->Int->Bool}{aa:List au}{J:G->Prop}(mZ:∀g ru,J g->ru∈aa->cU bt g ru=true->J (eG g ru.1 (aT g ru))){g g':G}(h:eF bt aa g g')(j:J g):J g':=by
 induction h with
 | refl=>exact j
 | step _ a b ih=>exact mZ _ _ ih a b
def fu (f:Str->Nat) (hs:List Str):Nat:=(hs.map f).sum
theorem xK {f k:Str->Nat}:∀{hs:List Str},(∀x∈hs,f x<=k x)->fu f hs<=fu k hs
 | [],_=>aD _
 | h::r,q=>by
  have h1:=q h cJ;have h2:=xK (hs:=r) λx hx=>q x (cW _ hx);show f h+fu f r<=k h+fu k r;omega
theorem nJ {f k:Str->Nat}:∀{hs:List Str}{h:Str},(∀x∈hs,f x<=k x)->h∈hs->f h < k h->fu f hs < fu k hs
 | a::r,h,q,m,l=>by
  have h1:=q a cJ;have h2:∀x∈r,f x<=k x:=λx hx=>q x (cW _ hx);show f a+fu f r < k a+fu k r;rcases bY.mp m with z | z
  .have:=xK h2;rw [z] at l;omega
  have:=nJ h2 z l;omega
theorem jF (g:G)(J:∀z n,g z=some n->(0:Int)<=n):∀ps:List Str,0<=(ps.map λp=>(g p).getD 0).sum
 | []=>by simp
 | p::r=>by
  have h1:=jF g J r;have h2:0<=(g p).getD 0:=by
   cases e:g p with
   | none=>exact oN _
   | some n=>exact J p n e
  rw [cO,kQ];omega
def NN (g:G):Prop:=∀z n,g z=some n->(0:Int)<=n
def wL {g:G}(j:NN g)(ru:au):NN (eG g ru.1 (aT g ru)):=λz n e=>by
 unfold eG at e;by_cases c:z=ru.1
 .rw [ax c] at e;cases e;have:=jF g j ru.2;unfold aT;omega
 rw [aw c] at e;exact j z n e
def bl (a b:Int):Bool:=decide (a < b)
def bg (a b:Int):Bool:=decide (a > b)
def AH (hs:List Str)(g' g:G):Prop :=
 fu (λh=>if (g' h).isSome then 0 else 1) hs < fu (λh=>if (g h).isSome then 0 else 1) hs \/
 (fu (λh=>if (g' h).isSome then 0 else 1) hs=fu (λh=>if (g h).isSome then 0 else 1) hs/\fu (λh=>((g' h).getD 0).toNat) hs < fu (λh=>((g h).getD 0).toNat) hs)
def J2 (hs:List Str)(g:G):Acc (AH hs) g:=by
 have wf:=(Prod.lex (β:=Nat) (α:=Nat) ⟨(· < ·),Nat.lt_wfRel.wf⟩ ⟨(· < ·),Nat.lt_wfRel.wf⟩).wf;have key:∀p:Nat×Nat,∀g:G,(fu (λh=>if (g h).isSome then 0 else 1) hs,fu (λh=>((g h).getD 0).toNat) hs)=p->Acc (AH hs) g:=λp=>by
  induction p using wf.induction with
  | _ p ih =>
   intro g e;refine⟨g,λg' r=>ih _ ?_ g' rfl⟩;rw [<-e];rcases r with r | ⟨r1,r2⟩
   .exact Prod.Lex.left _ _ r
   show Prod.Lex _ _ (fu (λh=>if (g' h).isSome then 0 else 1) hs,_) _;rw [r1];exact Prod.Lex.right _ r2
 exact key _ g rfl
def Ng (hs:List Str)(a b c:G)(h:AH hs a b)(k:AH hs b c):AH hs a c:=by
 unfold AH at *;omega
def G9 {aa:List au}(g:G)(ru:au)(j:NN g)(m:ru∈aa)(f:cU bl g ru=true):NN (eG g ru.1 (aT g ru))/\AH (aa.map (·.1)) (eG g ru.1 (aT g ru)) g:=by
 refine⟨wL j ru,?_⟩;have hm:ru.1∈aa.map (·.1):=j_ m;have nn:=wL j ru;have vk:eG g ru.1 (aT g ru) ru.1=some (aT g ru):=ax rfl;have ne:∀z,z≠ru.1->eG g ru.1 (aT g ru) z=g z:=λz n=>aw n;unfold cU at f;have f2:=(fk.mp f).2;cases e:g ru.1 with
 | none =>
  refine .inl (nJ (λx _=>?_) hm ?_)
  .by_cases c:x=ru.1
   .show (if (eG g ru.1 (aT g ru) x).isSome then 0 else 1)<=_;rw [c,vk];exact fj _
   show (if (eG g ru.1 (aT g ru) x).isSome then 0 else 1)<=_;rw [ne x c];exact aD _
  show (if (eG g ru.1 (aT g ru) ru.1).isSome then 0 else 1) < (if (g ru.1).isSome then 0 else 1);rw [vk,e];show 0 < 1;exact Nat.one_pos
 | some k =>
  rw [e] at f2;have lt:aT g ru < k:=dA (by simpa [bl] using f2);have h0:=nn ru.1 _ vk;refine .inr ⟨?_,nJ (λx _=>?_) hm ?_⟩
  .unfold fu
   congr 1
   refine List.map_congr_left λx _=>?_;by_cases c:x=ru.1
   .show (if (eG g ru.1 (aT g ru) x).isSome then 0 else 1)=(if (g x).isSome then 0 else 1);rw [c,vk,e];rfl
   show (if (eG g ru.1 (aT g ru) x).isSome then 0 else 1)=(if (g x).isSome then 0 else 1);rw [ne x c]
  .by_cases c:x=ru.1
   .show ((eG g ru.1 (aT g ru) x).getD 0).toNat<=((g x).getD 0).toNat;rw [c,vk,e];show (aT g ru).toNat<=k.toNat;omega
   show ((eG g ru.1 (aT g ru) x).getD 0).toNat<=((g x).getD 0).toNat;rw [ne x c];exact aD _
  show ((eG g ru.1 (aT g ru) ru.1).getD 0).toNat < ((g ru.1).getD 0).toNat;rw [vk,e];show (aT g ru).toNat < k.toNat;omega
def AI (aa:List au)(g:G)(j:NN g):∃n,pW bl aa n g:=yK (Ng (aa.map (·.1))) (λg ru=>G9 g ru) (J2 _ g) j
inductive Em (aa:List au):Str->Prop
 | mk {ru:au}:ru∈aa->(∀p∈ru.2,Em aa p)->Em aa ru.1
def zp (aa:List au)(b:Str->Int):Prop:=(∀z,0<=b z)/\∀ru∈aa,(∀p∈ru.2,Em aa p)->1+(ru.2.map b).sum<=b ru.1
def GJ (aa:List au)(b:Str->Int)(g:G):Prop:=∀z n,g z=some n->0<=n/\n<=b z/\Em aa z
theorem BE {aa:List au}{b:Str->Int}{g:G}(j:GJ aa b g)(hb:∀z,0<=b z):∀ps:List Str,(ps.map λp=>(g p).getD 0).sum<=(ps.map b).sum
 | []=>by simp
 | p::r=>by
  have h1:=BE j hb r;have h2:(g p).getD 0<=b p:=by
   cases e:g p with
   | none=>exact hb p
   | some n=>exact(j p n e).2.1
  rw [cO,kQ,cO,kQ];omega
def gm (b:Str->Int)(g:G)(h:Str):Nat:=if (g h).isSome then (b h - (g h).getD 0).toNat else (b h).toNat+1
def sU {aa:List au}{b:Str->Int}(B:zp aa b)(g:G)(ru:au)(j:GJ aa b g)(m:ru∈aa)(f:cU bg g ru=true) :
  GJ aa b (eG g ru.1 (aT g ru))/\fu (gm b (eG g ru.1 (aT g ru))) (aa.map (·.1)) < fu (gm b g) (aa.map (·.1)):=by
 have hm:ru.1∈aa.map (·.1):=j_ m;have vk:eG g ru.1 (aT g ru) ru.1=some (aT g ru):=ax rfl;have ne:∀z,z≠ru.1->eG g ru.1 (aT g ru) z=g z:=λz n=>aw n;unfold cU at f;obtain⟨f1,f2⟩:=fk.mp f;have em:∀p∈ru.2,Em aa p:=λp hp=>by
  obtain⟨n,en⟩:=lX.mp (gr.mp f1 p hp);exact(j p n en).2.2
 have bd:=B.2 ru m em;have sb:=BE j B.1 ru.2;have s0:=jF g (λz n e=>(j z n e).1) ru.2;have sz:0<=aT g ru/\aT g ru<=b ru.1:=by unfold aT;omega
 refine⟨λz n e=>?_,nJ (λx _=>?_) hm ?_⟩
 .by_cases c:z=ru.1
  .rw [c,vk] at e;cases e;rw [c];exact⟨sz.1,sz.2,.mk m em⟩
  rw [ne z c] at e;exact j z n e
 .by_cases c:x=ru.1
  .rw [c];unfold gm;rw [vk];show (b ru.1 - aT g ru).toNat<=_;cases e:g ru.1 with
   | none=>show _<=(b ru.1).toNat+1;omega
   | some k =>
    rw [e] at f2;have lt:aT g ru > k:=dA (by simpa [bg] using f2);show _<=(b ru.1 - k).toNat;omega
  unfold gm;rw [ne x c];exact aD _
 unfold gm;rw [vk];show (b ru.1 - aT g ru).toNat < _;cases e:g ru.1 with
 | none=>show _ < (b ru.1).toNat+1;omega
 | some k =>
  rw [e] at f2;have lt:aT g ru > k:=dA (by simpa [bg] using f2);show _ < (b ru.1 - k).toNat;omega
def AW {aa:List au}{b:Str->Int}(B:zp aa b)(g:G)(j:GJ aa b g):∃n,pW bg aa n g :=
 yK (r:=λg' g=>fu (gm b g') (aa.map (·.1)) < fu (gm b g) (aa.map (·.1))) (λ_ _ _ h k=>jB h k) (sU B) ((InvImage.wf (λg:G=>fu (gm b g) (aa.map λx:au=>x.1)) Nat.lt_wfRel.wf).apply g) j
def yD {aa:List au}{b:Str->Int}(B:zp aa b){g g':G}(h:eF bg aa g g')(j:GJ aa b g):GJ aa b g':=h.keep (λg ru a m f=>(sU B g ru a m f).1) j
end M11
namespace L2
open PySem
def qm {K:a8}{H:Hp}{p D:Addr}{zs:List Str}{σ:St}{v:V}{x:Str}{Qp:Hp->Prop}(hp:aG K H p (zs.map V.str))(hz:zs.length<=10000)(hD:H D=none)
  (q:∀ts H2,aB H H2->H2 D=some (.lst (ts.map V.ref))->Paired (λt h=>aR K H2 t [.str h,v]) ts zs->Qp H2) :
  ∃W:Nat->Nat->List V->St->Hp->Prop,(∃m,W 0 m [] (dO [x] [] σ) (upd H D (.lst []))) /\
 ∀i m ys σ' H,W i m ys σ' H->((kn K p).stop i H/\Qp H)\/((kn K p).go i H/\∃m',m' < m/\∀x H',(kn K p).mE i H x H'->dM 0 x σ' H' λσ2 H2=>hX σ2 H2 λb H3 =>
  if b=true then ue (gM (gE 0) (gM (tC v) rP)) σ2 H3 λy H4=>H4 D=some (.lst ys)/\ys.length < sizeLine/\W (i+1) m' (ys++[y]) σ2 (upd H4 D (.lst (ys++[y]))) else W (i+1) m' ys σ2 H3):=by
 refine cI (xs:=zs.map V.str) (λi ys σ2 H2=>∃ts:List Addr,ys=ts.map V.ref/\ts.length=i/\Paired (λt h=>aR K H2 t [.str h,v]) ts (zs.take i)/\(∃y0,σ2=[y0])/\aB H H2/\H2 D=some (.lst ys))
  ⟨[],rfl,rfl,.nil,⟨none,rfl⟩,af hD _,ae⟩ (λi ys σ2 H2 _ h=>?_) (λi x ys σ2 H2 ex h=>?_) (λys σ2 H2 h=>?_)
 .obtain⟨_,_,_,_,_,sm,_⟩:=h;exact sm.seq hp
 .obtain⟨ts,rfl,ht,qA,⟨y0,rfl⟩,sm,hd⟩:=h;rw [bo] at ex;obtain⟨z,ez,rfl⟩:=cg.mp ex;have li:=(bj.mp ez).1;refine goN (yE ?_);refine⟨_,rfl,oK,λt jz=>⟨?_,bF (by rw [av];omega),ts++[t],?_,?_,?_,⟨_,rfl⟩,?_,ae⟩⟩
  .rw [ai (az hd jz)];exact hd
  .rw [bG];rfl
  .rw [bp,ht];rfl
  .rw [cQ,ez];have jf:upd H2 t (.tup [.str z,v]) D=some (.lst (ts.map V.ref)):=by rw [ai (az hd jz)];exact hd
   exact gX (Paired.eJ qA λt' h' z=>aW jf ((af jz _).tup z)) (aW jf (aR.of ae))
  intro b o hb;rw [ai (λz=>by rw [z,hD] at hb;cases hb)];exact af jz _ _ _ (sm b o hb)
 obtain⟨ts,rfl,ht,qA,_,sm,hd⟩:=h;rw [av,cP] at qA;exact q ts H2 sm hd qA
def Tab.same {T:Addr}{pos:Pos}{qual:Str}{H H':Hp}(h:Tab T pos qual H)(s:aB H H'):Tab T pos qual H':=by
 obtain⟨ps,a,b,c⟩:=h;refine⟨ps,s _ _ a,b,c.imp id ?_⟩;rintro⟨c',e,g⟩;exact⟨c',e,s _ _ g⟩
def Tab.xZ {T d:Addr}{pos:Pos}{qual:Str}{H H':Hp}{kvs:List (aL×V)}(h:Tab T pos qual H)(s:cY d H H')(hd:H d=some (.dK kvs)):Tab T pos qual H':=by
 obtain⟨ps,a,b,c⟩:=h;refine⟨ps,s _ _ (λz=>by rw [z,hd] at a;cases a) a,b,c.imp id ?_⟩;rintro⟨c',e,g⟩;exact⟨c',e,s _ _ (λz=>by rw [z,hd] at g;cases g) g⟩
structure zh (K:a8)(x qual:Str)(st:Stmt)(f:Addr)(fd:FuncData)(T:Addr):Prop where
 ex:∃(oc:Value)(od:Option Addr)(kV doc pm:Value)(an:Option Addr)(c:Addr)(ct:Value)(wJ:Array (Option Value)),
  fd=PySem.W.fnOf x qual (dB st) (cw st) (ay st) .none kV doc pm an (.ref c) ct/\K.lookup f=some ⟨oc,od,.func fd,wJ⟩/\PySem.W.codeIn K (.ref c) qual=true/\PySem.W.codeHdIn K c T=true
 kp:PySem.W.keepIn K (.ref f)=true
def zh.ok {P:Program}{w:World}{K:a8}{mg:Str->Option Value}{base:Heap}{x qual:Str}{st:Stmt}{f:Addr}{fd:FuncData}{T:Addr}{N ps:List Str}{k:Nat}{sp:Sp}(F:zh K x qual st f fd T)(S:aI N ps (ay st))(len:∀vs H Q E,sp vs H Q E->vs.length=ps.length)
  (jt:∀(c:Addr)(A:Around)(outer:List Env)(s:Shared)(H:Hp)(vs:List V)(Q:VK)(E:XK),PySem.W.codeHdIn K c T=true->fh k (A.deeper (PyProof.Rows.envOfC qual (ay st) s.heap.objs.size f (.ref c)))->sp vs H Q E ->
   ∃t,Bm (pS fY P w K mg base N qual (ay st) f (.ref c) A outer s H E).Dx (cw st) t/\t { nx:=λ_ H'=>Q .eV H',rt:=Q } (start N vs) H):bR P w K mg base fY (k+1) f fd ps sp:=by
 obtain⟨oc,od,kV,doc,pm,an,c,ct,wJ,rfl,lk,w6,hC⟩:=F.ex;refine HP lk w6 S len λA outer s H vs Q E hr zw=>?_;obtain⟨t,h,q⟩:=jt c A outer s H vs Q E hC hr zw;exact⟨t,h.Dx,q⟩
theorem uQ {v:V}:∀(hs:List Str)(bI:List (aL×V)) (as:List Str),bI.map (·.1)=as.map Sum.inr->(df (hs.map λh=>((Sum.inr h:aL),v)) bI).map (·.1)=(M11.xi as hs).map Sum.inr
 | [],bI,as,e=>e
 | h::r,bI,as,e=>uQ r (bL bI (Sum.inr h) v) (M11.ig as h) (gT.lB e h)
theorem nE {v:V}:∀(hs:List Str)(bI:List (aL×V))(z:Str),bf (df (hs.map λh=>((Sum.inr h:aL),v)) bI) (Sum.inr z)=if z∈hs then some v else bf bI (Sum.inr z)
 | [],bI,z=>by simp [df]
 | h::r,bI,z=>by
  have ih:=nE (v:=v) r (bL bI (Sum.inr h) v) z;show bf (df (r.map λh=>((Sum.inr h:aL),v)) (bL bI (Sum.inr h) v)) (Sum.inr z)=_;rw [ih,rN];by_cases c:z∈r
  .rw [ax c,ax (cW _ c)]
  rw [aw c];by_cases c2:z=h
  .rw [ax (by rw [c2]),ax (by rw [c2];exact cJ)]
  rw [aw (λe=>c2 (ml e)),aw (λe=>(bY.mp e).elim c2 c)]
end L2
namespace gT
open PySem L2 M11
def QM:List Stmt->Arguments×Expr×Scope×Pos
 | [.Return (some (.Call _ [_,_,.Lambda p b s pos] _ _)) _]=>(p,b,s,pos)
 | _=>(⟨[],[],none,[],[],none,[]⟩,.Constant .none 0 ⟨0,0,0,0⟩,ay sj,⟨0,0,0,0⟩)
abbrev sL:=QM (cw sj)
abbrev AG:=QM (cw wo)
abbrev zu:Str := "least_sizes" ++ ".<locals>." ++ "<lambda>"
abbrev Lh:Str := "greatest_empty_sizes" ++ ".<locals>." ++ "<lambda>"
def My:aI ["size","known"] ["size","known"] sL.2.2.1:=iT rfl rfl rfl rfl nofun
def Mz:aI ["size","known"] ["size","known"] AG.2.2.1:=iT rfl rfl rfl rfl nofun
section
def Au (F:iz K "settled_sizes" "settled_sizes" nW f fd)(T:Txt mg):bR P w K mg base fY 2 f fd ["rules","sizes","better"] (iI K zu sL.1 sL.2.1 sL.2.2.1 M11.bl) :=
 uO F T My (λpm gG c' us hl=>match us,hl with | [_,_],_=>rfl) (λ_ _ _ _ _ _=>fg qi (pv 0) (pv 1) (bW _)) (λa b H Q h=>⟨_,rfl,_,rfl,_,_,rfl,rfl,h⟩)
def Av (F:iz K "settled_sizes" "settled_sizes" nW f fd)(T:Txt mg):bR P w K mg base fY 2 f fd ["rules","sizes","better"] (iI K Lh AG.1 AG.2.1 AG.2.2.1 M11.bg) :=
 uO F T Mz (λpm gG c' us hl=>match us,hl with | [_,_],_=>rfl) (λ_ _ _ _ _ _=>fg yh (pv 0) (pv 1) (bW _)) (λa b H Q h=>⟨_,rfl,_,rfl,_,_,rfl,rfl,h⟩)
def zy (aa:List au):G:=λz=>if z∈tZ (hd aa) [] (aa.flatMap (·.2)) then some 0 else none
def qI (K:a8)(T1:Addr):Sp:=λvs H Q _=>∃(R:Addr)(rs:List Addr)(aa:List au),vs=[.ref R]/\aG K H R (rs.map V.ref)/\bJ K H rs aa/\aa.length<=1000/\(∀ru∈aa,ru.2.length<=8)/\Tab T1 sL.2.2.2 zu H /\
 ∀(d:Addr)(kvs:List (aL×V)) (ks:List Str)(g:G)(H':Hp),H d=none->cY T1 H H'->Tab T1 sL.2.2.2 zu H'->H' d=some (.dK kvs)->kvs.map (·.1)=ks.map Sum.inr->(∀z,bf kvs (Sum.inr z)=(g z).map V.int)->eF M11.bl aa (zy aa) g->i6 M11.bl aa g->kvs.length<=20000->Q (.ref d) H'
def Jt:aI ["rules"] ["rules"] (ay sj):=iT rfl rfl rfl rfl nofun
def Gx {T1:Addr}(F:zh K "least_sizes" "least_sizes" sj f fd T1)(T:Txt mg)(hB:tY mg base)(GW:aE P w K mg base 1 "words_in" ["rules"] (BK K))
  (GS:aE P w K mg base 2 "settled_sizes" ["rules","sizes","better"] (iI K zu sL.1 sL.2.1 sL.2.2.1 M11.bl)):bR P w K mg base fY 3 f fd ["rules"] (qI K T1):=by
 refine F.ok Jt (λvs H Q E h=>?_) (λc A outer s H vs Q E hC hr h=>?_)
 .obtain⟨R,rs,aa,rfl,_⟩:=h;rfl
 obtain⟨R,rs,aa,rfl,hR,cT,br,h8,hT,q⟩:=h;refine⟨_,ak (aQ (bc GS hr rfl (ab (pv 0) (ab (aV (dP rfl) rfl T.Bc fO (ab
  (ba ["word"] [] rfl (aX (bc (GW.mono (by decide:1<=2)) hr rfl (ab (pv 0) ah))) (a9 rfl rfl) nofun rfl nofun
   (λ_ _ _ _ _=>ao (i:=0) (show (["word"]:List Str).Nodup by decide +kernel) rfl (bB rfl)) (λ_ _ _ _ _=>bQ)
   (λ_ _ _ _ _=>bS (ab (pv 0) (ab ar ah)))) ah)) (ab (Gf (T:=T1) rfl hC hB nofun) ah))))),?_⟩
 dsimp only [Bd];refine⟨_,rfl,_,rfl,R,rs,aa,rfl,hR,cT,br,h8,λD1 H1 f1 s1 e1=>?_⟩;have lw:(tZ (hd aa) [] (aa.flatMap (·.2))).length<=8000:=by
  have h1:=vR (hd aa) (aa.flatMap (·.2)) [];have h2:=jv aa 1000 br h8;simp only [iX] at h1;omega
 refine⟨D1,rfl,⟨_,aG.of e1⟩,λD2 i5=>qm (aG.of e1) ∅ i5 λts H2 s2 e2 p2=>?_⟩;have kp:Paired (λt (kv:aL×V)=>aR K H2 t [kV kv.1,kv.2]) ts ((tZ (hd aa) [] (aa.flatMap (·.2))).map λh=>((Sum.inr h:aL),V.int 0)):=cu p2 λ_ _ z=>z;refine⟨D2,ts,_,rfl,e2,kp,λd hd2=>?_⟩;have k1:=uQ (v:=.int 0) (tZ (hd aa) [] (aa.flatMap (·.2))) [] [] rfl;have k2:∀z,bf (df ((tZ (hd aa) [] (aa.flatMap (·.2))).map λh=>((Sum.inr h:aL),V.int 0)) []) (Sum.inr z)=(zy aa z).map V.int:=λz=>by
  rw [nE];unfold zy
  split <;> rfl
 have lk:=iE (tZ (hd aa) [] (aa.flatMap (·.2))) [];simp only [iX] at lk;generalize df ((tZ (hd aa) [] (aa.flatMap (·.2))).map λh=>((Sum.inr h:aL),V.int 0)) []=QQ at k1 k2;have s3:=(s1.trans s2).trans (af hd2 (.dK QQ));have e3:upd H2 d (.dK QQ) d=some (.dK QQ):=ae;have zB:H d=none:=(s1.trans s2).free hd2;generalize upd H2 d (.dK QQ)=H3 at s3 e3;refine⟨hT.same s3,λfl c' gG H4 s4 t4 ffl e4 XO=>?_⟩;have nT:d≠T1:=λz=>by
  obtain⟨ps,a,_⟩:=hT.same s3;rw [<-z,e3] at a;cases a
 have EY:=s4 d _ nT e3;have VT:∀{a xs},aR K H a xs->aR K H4 a xs:=λ{a xs} h=>by
  obtain⟨ps,b,_⟩:=hT;rcases h with (h | ⟨u,h⟩) | h
  .exact .inl (.inl (s4 _ _ (λz=>by rw [z,b] at h;cases h) (s3 _ _ h)))
  .exact .inl (.inr ⟨u,s4 _ _ (λz=>by rw [z,b] at h;cases h) (s3 _ _ h)⟩)
  exact .inr h
 have VU:∀{a xs},aG K H a xs->aG K H4 a xs:=λ{a xs} h=>by
  obtain⟨ps,b,_⟩:=hT;rcases h with (h | ⟨u,h⟩) | h
  .exact .inl (.inl (s4 _ _ (λz=>by rw [z,b] at h;cases h) (s3 _ _ h)))
  .exact .inl (.inr ⟨u,s4 _ _ (λz=>by rw [z,b] at h;cases h) (s3 _ _ h)⟩)
  exact .inr h
 refine⟨R,rs,aa,d,fl,c',_,gG,QQ,_,zy aa,rfl,VU hR,cT.keep λ_ _ z=>VT z,br,h8,EY,k1,pR _ kK,∅,k2,AI aa _ λz n e=>?_,e4,XO,λmP QR g' H5 s5 e5 k5 v5 st se ZF=>?_⟩
 .unfold zy at e
  split at e
  .cases e;exact oN _
  cases e
 refine q d mP QR g' H5 zB (λb o n hb=>s5 b o (λz=>?_) (s4 b o n (s3 b o hb))) (t4.xZ s5 EY) e5 k5 v5 st se ZF;rw [z,zB] at hb;cases hb
def vZ (K:a8)(T2:Addr):Sp:=λvs H Q _=>∃(R:Addr)(rs:List Addr)(aa:List au)(b:Str->Int),vs=[.ref R]/\aG K H R (rs.map V.ref)/\bJ K H rs aa/\aa.length<=1000/\(∀ru∈aa,ru.2.length<=8)/\zp aa b/\Tab T2 AG.2.2.2 Lh H /\
 ∀(d:Addr)(kvs:List (aL×V)) (ks:List Str)(g:G)(H':Hp),H d=none->cY T2 H H'->Tab T2 AG.2.2.2 Lh H'->H' d=some (.dK kvs)->kvs.map (·.1)=ks.map Sum.inr->(∀z,bf kvs (Sum.inr z)=(g z).map V.int)->GJ aa b g->eF M11.bg aa (λ_=>none) g->i6 M11.bg aa g->Q (.ref d) H'
def Jw:aI ["rules"] ["rules"] (ay wo):=iT rfl rfl rfl rfl nofun
def Gz {T2:Addr}(F:zh K "greatest_empty_sizes" "greatest_empty_sizes" wo f fd T2)(hB:tY mg base)
  (GS:aE P w K mg base 2 "settled_sizes" ["rules","sizes","better"] (iI K Lh AG.1 AG.2.1 AG.2.2.1 M11.bg)):bR P w K mg base fY 3 f fd ["rules"] (vZ K T2):=by
 refine F.ok Jw (λvs H Q E h=>?_) (λc A outer s H vs Q E hC hr h=>?_)
 .obtain⟨R,rs,aa,b,rfl,_⟩:=h;rfl
 obtain⟨R,rs,aa,b,rfl,hR,cT,br,h8,hBd,hT,q⟩:=h;refine⟨_,ak (aQ (bc GS hr rfl (ab (pv 0) (ab gQ (ab (Gf (T:=T2) rfl hC hB nofun) ah))))),?_⟩;refine⟨_,rfl,λd zB=>?_⟩;have s3:=af zB (.dK []);have e3:upd H d (.dK []) d=some (.dK []):=ae;generalize upd H d (.dK [])=H3 at s3 e3;refine⟨hT.same s3,λfl c' gG H4 s4 t4 ffl e4 XO=>?_⟩;have nT:d≠T2:=λz=>by
  obtain⟨ps,a,_⟩:=hT.same s3;rw [<-z,e3] at a;cases a
 have EY:=s4 d _ nT e3;have VT:∀{a xs},aR K H a xs->aR K H4 a xs:=λ{a xs} h=>by
  obtain⟨ps,b,_⟩:=hT;rcases h with (h | ⟨u,h⟩) | h
  .exact .inl (.inl (s4 _ _ (λz=>by rw [z,b] at h;cases h) (s3 _ _ h)))
  .exact .inl (.inr ⟨u,s4 _ _ (λz=>by rw [z,b] at h;cases h) (s3 _ _ h)⟩)
  exact .inr h
 have VU:∀{a xs},aG K H a xs->aG K H4 a xs:=λ{a xs} h=>by
  obtain⟨ps,b,_⟩:=hT;rcases h with (h | ⟨u,h⟩) | h
  .exact .inl (.inl (s4 _ _ (λz=>by rw [z,b] at h;cases h) (s3 _ _ h)))
  .exact .inl (.inr ⟨u,s4 _ _ (λz=>by rw [z,b] at h;cases h) (s3 _ _ h)⟩)
  exact .inr h
 have j0:GJ aa b (λ_=>none):=λz n e=>nomatch e;refine⟨R,rs,aa,d,fl,c',_,gG,[],[],λ_=>none,rfl,VU hR,cT.keep λ_ _ z=>VT z,br,h8,EY,rfl,kK,fj _,λ_=>rfl,AW hBd _ j0,e4,XO,λmP QR g' H5 s5 e5 k5 v5 st se ZF=>?_⟩;refine q d mP QR g' H5 zB (λb o n hb=>s5 b o (λz=>?_) (s4 b o n (s3 b o hb))) (t4.xZ s5 EY) e5 k5 v5 (yD hBd st j0) st se;rw [z,zB] at hb;cases hb
end
end gT
namespace L2
open PySem PySem.Spec PyProof.Rows
def Ob (o:Obj):Nat:=match o.data with
 | .dict _ ep=>ep
 | _=>0
def SG (d:Addr)(o:Obj)(kvs:List (aL×V)):It :=
 ⟨λi H=>H d=some (.kx o (.dK kvs))/\i < kvs.length,λi H x H'=>H'=H/\∃kv,kvs[i]?=some kv/\x=kV kv.1,λi H=>H d=some (.kx o (.dK kvs))/\kvs.length<=i⟩
def A2 {X:Cx}{ag:List (Addr×Obj)}{σ:St}{H:Hp}{s:Shared}{d:Addr}{o:Obj}{kvs:List (aL×V)}(I:Inv X ag σ H s)(e:H d=some (.kx o (.dK kvs))) :
  (d == sysModules)=false/\∃vs,KV kvs vs/\s.heap.DictAt (bh X.prog X.w) d vs (Ob o):=by
 obtain⟨ho,hz,hs,vs,r,o',es,ep,h1,h2,h3,h4⟩:=(show cM X.prog X.w H s.heap d (.kx o (.dK kvs)) from I.bZ d _ e);rw [ho] at h1;cases h1;refine⟨hs,vs,r,o,es,ho,h2,?_,h4⟩;unfold Ob;rw [h3]
def CP {P:Program}{w:World}{K:a8}{tg:Expr}(d it:Addr)(o:Obj)(kvs:List (aL×V)):Turn P w K tg (SG d o kvs) [it] it (λi h=>h.IsKeyIter it d i kvs.length (Ob o)) where
 mem:=by simp
 obj:=λi h st b hb=>by
  have e:b=it:=by simpa using hb
  subst e;obtain⟨o,e,c,d⟩:=st;exact⟨o,e,λv z=>by rw [d] at z;cases z⟩
 keep:=λi h h' st k=>let ⟨o,e,r⟩:=st;⟨o,k it (by simp) o e,r⟩
 item:=by
  intro X hP hw hK hc i ag s σ H E I hf st hg;subst hP hw hK;obtain⟨hq,hi⟩:=hg;obtain⟨hs,vs,r,da⟩:=A2 I hq;have l:=r.length;obtain⟨kv,Ug⟩:∃kv,kvs[i]?=some kv:=⟨kvs[i],b_ hi⟩;obtain⟨q,eq⟩:∃q,vs[i]?=some q:=⟨vs[i]'∅,b_ ∅⟩;have ek:kv.1=q.1:=by
   have:=congrArg (λl:List aL=>l[i]?) r.keys;simp only [bo,Ug,eq] at this;exact iw this
  obtain⟨f0,f1,f2,f3,f4,f5⟩:=hf it (by simp);rw [l] at st;refine wpAny_pyNext_dict_item (k:=q.1) (v:=q.2) st da eq λkey h' hk uF sb=>?_;have I1:Inv X ag σ H { s with heap:=h' }:=I.turned (t':=s.toks) (λb o hb e=>(sb.2 b hb).trans e) f0 f1 f3 f4 f5;obtain⟨o2,e,c,dd⟩:=id uF;rw [<-l] at uF;exact⟨key,rfl,Co (s:={ s with heap:=h' }) e c dd nofun ⟨kV kv.1,H,I1,by rw [ek];exact Lq hk,⟨rfl,kv,Ug,rfl⟩,uF,λb hb=>(hf b hb).1⟩⟩
 done:=by
  intro X hP hw hK hc i ag s σ H E I hf st hg;subst hP hw hK;obtain⟨hq,hi⟩:=hg;obtain⟨hs,vs,r,da⟩:=A2 I hq;have l:=r.length;obtain⟨f0,f1,f2,f3,f4,f5⟩:=hf it (by simp);rw [l] at st;exact wpAny_pyNext_dict_end (I.ok.hd hc) st da (qb ∅) λh' eb=>⟨rfl,I.turned (t':=s.toks) (λb o hb e=>eb b o hb e) f0 f1 f3 f4 f5⟩
 self:=λ_ _ _ _ _ st h=>wpAny_pyIter_keyiter st h
def QZ (tl:TE):TI:=λσ H R=>tl σ H λx H1=>∃d kvs,x=.ref d/\H1 d=some (.dK kvs)/\∀o,R (SG d o kvs) (upd H1 d (.kx o (.dK kvs)))
def Cb {X:Cx}{tg l:Expr}{tl:TE}(hl:PE X l tl):PI X tg l (QZ tl):=by
 intro ag s σ H R I h;refine cX (hl ag s σ H _ I h) λv s1 bx=>?_;obtain⟨x,H1,I1,r1,q1⟩:=bx;obtain⟨d,kvs,e,hd,q⟩:=q1;subst e;cases r1;obtain⟨hz,hs,vs,r,o,es,ep,h1,h2⟩:=(show cM X.prog X.w H1 s1.heap d (.dK kvs) from I1.bZ d _ hd);have I2:Inv X ag σ (upd H1 d (.kx o (.dK kvs))) { s1 with heap:=s1.heap,toks:=s1.toks }:=I1.write (x:=d) (e:=d) (by rw [hd];exact True.intro) (.inl rfl) (λb u _ e=>e) ⟨o,h1⟩ ⟨h1,hz,hs,vs,r,o,es,ep,h1,h2⟩;have e2:upd H1 d (.kx o (.dK kvs)) d=some (.kx o (.dK kvs)):=ae;obtain⟨_,Pz,r2,da⟩:=A2 I2 e2;have q2:=q o;generalize upd H1 d (.kx o (.dK kvs))=H2 at I2 e2 q2;refine wpAny_pyIter_dict hs da ?_;refine⟨s1.heap.objs.size,[s1.heap.objs.size],_,_,H2,rfl,I2.kept (t':=s1.toks) λb o e=>bH _ e,CP d _ o kvs,⟨_,cA _ rfl,rfl,by rw [r2.length];rfl⟩,λb hb=>?_,q2⟩;have e:b=s1.heap.objs.size:=by simpa using hb
 subst e;exact I2.w_ (aD _) (I2.bZ.fresh (aD _))
section
variable {d D:Addr}{o:Obj}{kvs:List (aL×V)}{ts:List Str}{js:List (Nat×Str)}{g:TG}{tif:TT}{te:TE}{R:Hp->Prop}{σ:St}{H:Hp}
def tP (Pv:Nat->List V->St->Hp->Prop)(h0:Pv 0 [] (dO ts js σ) (upd H D (.lst [])))(hl:∀i ys σ H,i<=kvs.length->Pv i ys σ H->H d=some (.kx o (.dK kvs)))
  (hs:∀i kv ys σ H,kvs[i]?=some kv->Pv i ys σ H->g (kV kv.1) σ H λσ2 H2=>tif σ2 H2 λb H3=>if b=true then te σ2 H3 λy H4=>H4 D=some (.lst ys)/\ys.length < sizeLine/\Pv (i+1) (ys++[y]) σ2 (upd H4 D (.lst (ys++[y]))) else Pv (i+1) ys σ2 H3)
  (hd:∀ys σ H,Pv kvs.length ys σ H->R H) :
  ∃W:Nat->Nat->List V->St->Hp->Prop,(∃m,W 0 m [] (dO ts js σ) (upd H D (.lst []))) /\
 ∀i m ys σ' H,W i m ys σ' H->((SG d o kvs).stop i H/\R H)\/((SG d o kvs).go i H/\∃m',m' < m/\∀x H',(SG d o kvs).mE i H x H'->g x σ' H' λσ2 H2=>tif σ2 H2 λb H3 =>
  if b=true then te σ2 H3 λy H4=>H4 D=some (.lst ys)/\ys.length < sizeLine/\W (i+1) m' (ys++[y]) σ2 (upd H4 D (.lst (ys++[y]))) else W (i+1) m' ys σ2 H3):=by
 refine⟨λi m ys σ H=>m=kvs.length - i/\i<=kvs.length/\Pv i ys σ H,⟨kvs.length,by simp,fj _,h0⟩,?_⟩;rintro i m ys σ' H ⟨rfl,hi,p⟩;have q:=hl i ys σ' H hi p;by_cases je:i < kvs.length
 .refine .inr ⟨⟨q,je⟩,kvs.length - (i+1),∅,λx H' y=>?_⟩;obtain⟨e,kv,Ug,rfl⟩:=y;subst e;have z:=hs i kv ys σ' _ Ug p;have h1:(i+1<=kvs.length)=True:=eq_true je;simp only [h1,true_and];exact z
 have e:i=kvs.length:=by omega
 subst e;exact .inl ⟨⟨q,aD _⟩,hd ys σ' H p⟩
end
def u5 {A:Around}{s:Shared}{l b:Addr}{ys xs:List Int}{aN d7:List Value}(r:aY (ys.map V.int) aN)(r2:aY (xs.map V.int) d7)(hl:s.heap.IsList l aN.toArray)(hb:s.heap.IsList b d7.toArray)(ne:l≠b)(hu:A.units < cLine) :
  SeqAt.EqAt A s (.ref l) (.ref b) (decide (ys=xs)):=by
 have l1:=r.length;have l2:=r2.length;rw [av] at l1 l2;by_cases br:ys.length=xs.length
 .have h:=SeqAt.RcAt.lists (A:=A) (e:=λj=>decide (ys[j]?=xs[j]?)) hl hb (by simp only [bO];omega) hu λj h1 h2=>?_
  .have e:((List.range aN.toArray.size).all λj=>decide (ys[j]?=xs[j]?))=decide (ys=xs):=by
    rw [ng,gr,decide_eq_true_iff];constructor
    .intro h;refine List.ext_getElem? λj=>?_;by_cases c:j < ys.length
     .exact dA (h j (jD.mpr (by simp only [bO];omega)))
     rw [qb ∅,qb ∅]
    intro h j _;rw [h];exact bN rfl
   rw [e] at h;exact .of_refs ne h
  have k1:j < aN.length:=by simpa using h1
  have k2:j < d7.length:=by simpa using h2
  have e1:ys[j]?=some (ys[j]'∅):=b_ ∅;have e2:xs[j]?=some (xs[j]'∅):=b_ ∅;obtain⟨u1,f1,q1⟩:=r.get (show (ys.map V.int)[j]?=some (.int (ys[j]'∅)) by rw [bo,e1];rfl);obtain⟨u2,f2,q2⟩:=r2.get (show (xs.map V.int)[j]?=some (.int (xs[j]'∅)) by rw [bo,e2];rfl);have g1:aN.toArray[j]=u1:=by
   have:=(bj.mp f1).2;simpa using this
  have g2:d7.toArray[j]=u2:=by
   have:=(bj.mp f2).2;simpa using this
  rw [g1,g2,e1,e2];obtain⟨t1,rfl⟩:=q1;obtain⟨t2,rfl⟩:=q2;have:=SeqAt.EqAt.int_int (A:=A.in1) (s:=s) (ys[j]'∅) t1 (xs[j]'∅) t2;have e3:(ys[j]'∅ == xs[j]'∅)=decide (some (ys[j]'∅)=some (xs[j]'∅)):=by
   rw [ng,beq_iff_eq,decide_eq_true_iff,Option.some.injEq]
  rw [e3] at this;exact this
 have h:=SeqAt.RcAt.lists_lengths (A:=A) hl hb (by simp only [bO,bne_iff_ne];omega) hu;rw [cV (λz=>br (by rw [z]))];exact .of_refs ne h
def Di {X:Cx}(hu:X.A.units+1 < cLine):kJ X (compareOp .In) (λx y H Q=>∃t a l1 l2 xs ys zs,x=.ref a/\y=.ref t/\aR X.K H t [.ref l1,.ref l2]/\aG X.K H a (List.map V.int xs)/\aG X.K H l1 (List.map V.int ys)/\aG X.K H l2 (List.map V.int zs)/\l1≠a/\l2≠a /\
  Q (.bl (decide (ys=xs) || decide (zs=xs))) H):=by
 intro ag s σ H x y v u Q I rx ry h;obtain⟨t,a,l1,l2,xs,ys,zs,rfl,rfl,ht,ha,h1,h2,n1,n2,q⟩:=h;cases rx;cases ry;obtain⟨aN,r,pl,hz⟩:=I.tuple ht;obtain⟨u1,u2,rfl,q1,q2⟩:=vals2 r;cases (show u1=Value.ref l1 from q1);cases (show u2=Value.ref l2 from q2);obtain⟨xa,ra,pa,za⟩:=I.list ha;obtain⟨x1,r1,p1,z1⟩:=I.list h1;obtain⟨x2,r2,p2,z2⟩:=I.list h2;have e1:=u5 (A:=X.A.in1) (s:=s) r1 ra p1.isList pa.isList n1 hu;have e2:=u5 (A:=X.A.in1) (s:=s) r2 ra p2.isList pa.isList n2 hu;refine SeqAt.in_tupleAt (λy=>if y == .ref l1 then decide (ys=xs) else decide (zs=xs)) (show s.heap.IsTuple t #[.ref l1,.ref l2] from pl) (λy hy=>?_) ?_
 .have Ws:y=.ref l1\/y=.ref l2:=by simpa using hy
  by_cases c:y=.ref l1
  .subst c;rw [ax (o5 _)];exact e1
  rcases Ws with z | z
  .exact absurd z c
  subst z;rw [aw (λq=>c (eq_of_beq q))];exact e2
 refine⟨.bl (decide (ys=xs) || decide (zs=xs)),H,I,?_,q⟩
 show Value.bool _=Value.bool _
 congr 1
 by_cases c:l2=l1
 .subst c;have e3:=I.sM h1 h2;have e4:ys=zs:=by
   have:=congrArg (List.map λv:V=>match v with | .int n=>n | _=>0) e3
   simpa [iV,Function.comp_def] using this
  subst e4;simp
 simp [c]
end L2
namespace M11
open PySem L2
def Ea (b:Str->Bool) (zs:List Str) (i:Nat):List Int:=((List.range i).filter λj=>!(zs[j]?.elim true b)).map λj:Nat=>(j:Int)
def yG (b:Str->Bool) (zs:List Str) (i:Nat){z:Str}(e:zs[i]?=some z):Ea b zs (i+1)=Ea b zs i++(if b z=true then [] else [(i:Int)]):=by
 unfold Ea;rw [List.range_succ,o9,bG]
 congr 1
 by_cases h:b z=true
 .rw [ax h];simp [e,h]
 rw [aw h];simp [e,h]
def Km (b:Str->Bool) (zs:List Str) (i:Nat):(Ea b zs i).length<=i:=by
 unfold Ea;rw [av];have:=rH (λj=>!(zs[j]?.elim true b)) (List.range i);rw [mz] at this;exact this
def J0 (b:Str->Bool) (zs:List Str) (j:Nat):Bool:=decide ([]=Ea b zs zs.length) || decide ([(j:Int)]=Ea b zs zs.length)
def Pp (aa:List au) (names:List Str)(b:Str->Bool)(n:Str) (k j:Nat):Prop:=∃ru z,aa[k]?=some ru/\ru.1=n/\ru.2[j]?=some z/\z∈names/\J0 b ru.2 j=true
end M11
namespace L2
open PySem M11
def jy (p:Str×Addr):aL×V:=(Sum.inr p.1,.ref p.2)
theorem oA:∀(ps bI:List (aL×V)),((bI++ps).map (·.1)).Nodup->df ps bI=bI++ps
 | [],bI,_=>by simp [df]
 | p::r,bI,h=>by
  have n:bf bI p.1=none:=by
   cases e:bf bI p.1 with
   | none=>rfl
   | some v =>
    have hm:=(dQ bI p.1).mp (by rw [e];rfl);rw [bG,cO] at h;exact absurd rfl ((j9.mp h).2.2 p.1 hm p.1 cJ)
  show df r (bL bI p.1 p.2)=_;rw [ya p.2 n,oA r (bI++[(p.1,p.2)]) (by rw [lV];exact h),lV];rfl
theorem g6:∀(ps:List (Str×Addr)),(ps.map (·.1)).Nodup->∀p∈ps,bf (ps.map jy) (Sum.inr p.1)=some (.ref p.2)
 | q::r,h,p,hp=>by
  rw [cO] at h ⊢;rcases bY.mp hp with z | z
  .rw [z];exact eQ rfl
  rw [eU,g6 r (ni.mp h).2 p z];intro e;have e':q.1=p.1:=ml e;exact(ni.mp h).1 (by rw [e'];exact j_ z)
def n8 (ps:List (Str×Addr)):(ps.map jy).map (·.1)=(ps.map (·.1)).map Sum.inr:=by
 rw [iV,iV];rfl
def tO {K:a8}{H:Hp}{p D:Addr}{zs:List Str}{σ:St}{x:Str}{Qp:Hp->Prop}(hp:aG K H p (zs.map V.str))(hz:zs.length<=10000)(hD:H D=none)
  (q:∀ts (ps:List (Str×Addr)) H2,aB H H2->H2 D=some (.lst (ts.map V.ref))->ps.map (·.1)=zs->Paired (λt (p:Str×Addr)=>aR K H2 t [.str p.1,.ref p.2]) ts ps->(∀p∈ps,H2 p.2=some (.lst [])/\H p.2=none/\p.2≠D)->(ps.map (·.2)).Nodup->Qp H2) :
  ∃W:Nat->Nat->List V->St->Hp->Prop,(∃m,W 0 m [] (dO [x] [] σ) (upd H D (.lst []))) /\
 ∀i m ys σ' H,W i m ys σ' H->((kn K p).stop i H/\Qp H)\/((kn K p).go i H/\∃m',m' < m/\∀x H',(kn K p).mE i H x H'->dM 0 x σ' H' λσ2 H2=>hX σ2 H2 λb H3 =>
  if b=true then ue (gM (gE 0) (gM (PV rP) rP)) σ2 H3 λy H4=>H4 D=some (.lst ys)/\ys.length < sizeLine/\W (i+1) m' (ys++[y]) σ2 (upd H4 D (.lst (ys++[y]))) else W (i+1) m' ys σ2 H3):=by
 refine cI (xs:=zs.map V.str) (λi ys σ2 H2=>∃(ts:List Addr)(ps:List (Str×Addr)),ys=ts.map V.ref/\ts.length=i/\ps.map (·.1)=zs.take i/\Paired (λt (p:Str×Addr)=>aR K H2 t [.str p.1,.ref p.2]) ts ps /\
   (∀p∈ps,H2 p.2=some (.lst [])/\H p.2=none/\p.2≠D)/\(ps.map (·.2)).Nodup/\(∃y0,σ2=[y0])/\aB H H2/\H2 D=some (.lst ys))
  ⟨[],[],rfl,rfl,rfl,.nil,by simp,by simp,⟨none,rfl⟩,af hD _,ae⟩ (λi ys σ2 H2 _ h=>?_) (λi x ys σ2 H2 ex h=>?_) (λys σ2 H2 h=>?_)
 .obtain⟨_,_,_,_,_,_,_,_,_,sm,_⟩:=h;exact sm.seq hp
 .obtain⟨ts,ps,rfl,ht,hm,qA,hl,hn,⟨y0,rfl⟩,sm,hd⟩:=h;rw [bo] at ex;obtain⟨z,ez,rfl⟩:=cg.mp ex;have li:=(bj.mp ez).1;refine goN (yE ?_);refine⟨_,rfl,rM,λl um=>⟨oK,λt jz=>?_⟩⟩;have Nc:l≠D:=(az hd um).symm;have nt:t≠l:=λe=>by rw [e,ae] at jz;cases jz
  have Q8:H2 t=none:=by rw [ai nt] at jz;exact jz
  have ntD:t≠D:=(az hd Q8).symm;have v8:aB H2 (upd (upd H2 l (.lst [])) t (.tup [.str z,.ref l])):=(af um _).trans (af jz _);have jf:=v8 _ _ hd;have el:upd (upd H2 l (.lst [])) t (.tup [.str z,.ref l]) l=some (.lst []):=by rw [ai nt.symm,ae]
  have et:aR K (upd (upd H2 l (.lst [])) t (.tup [.str z,.ref l])) t [.str z,.ref l]:=aR.of ae;generalize upd (upd H2 l (.lst [])) t (.tup [.str z,.ref l])=H4 at v8 jf el et;refine⟨jf,bF (by rw [av];omega),ts++[t],ps++[(z,l)],by rw [bG];rfl,by rw [bp,ht];rfl,by rw [bG,hm,cQ,ez];rfl,?_,?_,?_,⟨_,rfl⟩,?_,ae⟩
  .exact gX (Paired.eJ qA λt' h' z=>aW jf (v8.tup z)) (aW jf et)
  .intro p' pL;rcases cq.mp pL with h | h
   .obtain⟨a1,a2,a3⟩:=hl p' h;exact⟨by rw [ai a3];exact v8 _ _ a1,a2,a3⟩
   rw [bC.mp h];exact⟨by rw [ai Nc];exact el,sm.free um,Nc⟩
  .rw [bG];refine j9.mpr ⟨hn,by simp,λa ha b hb e=>?_⟩;rw [o_,bC] at hb;obtain⟨p',pL,rfl⟩:=cy.mp ha;have:=(hl p' pL).1;rw [e,hb] at this;rw [show H2 l=none from um] at this;cases this
  intro b o hb;rw [ai (λz=>by rw [z,hD] at hb;cases hb)];exact v8 _ _ (sm b o hb)
 obtain⟨ts,ps,rfl,ht,hm,qA,hl,hn,_,sm,hd⟩:=h;rw [av,cP] at hm;exact q ts ps H2 sm hd hm qA hl hn
def yT {K:a8}{H:Hp}{p D d:Addr}{zs:List Str}{kvs:List (aL×V)}{σ:St}{js:List (Nat×Str)}{Qp:Hp->Prop}(hσ:dO ["place","part"] js σ=[none,none,aM d])(hp:aR K H p (zs.map V.str))(hz:zs.length<=1000)
  (hd:H d=some (.dK kvs))(hD:H D=none)(q:∀H2,aB H H2->H2 D=some (.lst ((Ea (λz=>(bf kvs (Sum.inr z)).isSome) zs zs.length).map V.int))->Qp H2) :
  ∃W:Nat->Nat->List V->St->Hp->Prop,(∃m,W 0 m [] (dO ["place","part"] js σ) (upd H D (.lst []))) /\
 ∀i m ys σ' H,W i m ys σ' H->((tX K p).stop i H/\Qp H)\/((tX K p).go i H/\∃m',m' < m/\∀x H',(tX K p).mE i H x H'->AZ K 2 (ju (dM 0) (ju (dM 1) DV)) x σ' H' λσ2 H2=>tB (By (gE 1) (gE 2)) σ2 H2 λb H3 =>
  if b=true then gE 0 σ2 H3 λy H4=>H4 D=some (.lst ys)/\ys.length < sizeLine/\W (i+1) m' (ys++[y]) σ2 (upd H4 D (.lst (ys++[y]))) else W (i+1) m' ys σ2 H3):=by
 refine yV (xs:=zs.map V.str) (λi ys σ2 H2=>ys=(Ea (λz=>(bf kvs (Sum.inr z)).isSome) zs i).map V.int/\(∃y0 y1,σ2=[y0,y1,aM d])/\aB H H2/\H2 D=some (.lst ys))
  ⟨rfl,⟨none,none,hσ⟩,af hD _,ae⟩ (λi ys σ2 H2 _ h=>h.2.2.1.tup hp) (λi x ys σ2 H2 t ex h ht=>?_) (λys σ2 H2 h=>?_)
 .obtain⟨rfl,⟨y0,y1,rfl⟩,sm,hd2⟩:=h;rw [bo] at ex;obtain⟨z,ez,rfl⟩:=cg.mp ex;have li:=(bj.mp ez).1;have v8:=sm.trans (af ht (.tup [.int (i:Int),.str z]));have jf:upd H2 t (.tup [.int (i:Int),.str z]) D=some (.lst ((Ea (λz=>(bf kvs (Sum.inr z)).isSome) zs i).map V.int)):=by rw [ai (az hd2 ht)];exact hd2
  have hv:aR K (upd H2 t (.tup [.int (i:Int),.str z])) t [.int (i:Int),.str z]:=aR.of ae;generalize upd H2 t (.tup [.int (i:Int),.str z])=H3 at v8 jf hv;have fl:=Km (λz=>(bf kvs (Sum.inr z)).isSome) zs i;refine⟨t,_,rfl,hv,rfl,_,_,rfl,_,_,rfl,rfl,?_⟩;refine⟨_,rfl,_,rfl,d,_,rfl,bX.k (k:=Sum.inr z) (v8 _ _ hd),_,rfl,?_⟩;refine cE (λc=>?_) (λc=>?_)
  .refine⟨_,rfl,jf,bF (by rw [av];omega),?_,⟨_,_,rfl⟩,?_,ae⟩
   .rw [yG _ zs i ez,aw (λe=>by rw [e] at c;exact absurd c nofun),bG];rfl
   intro b o hb;rw [ai (λz=>by rw [z,hD] at hb;cases hb)];exact v8 b o hb
  refine⟨?_,⟨_,_,rfl⟩,v8,jf⟩;rw [yG _ zs i ez,ax,iu];cases hq:(bf kvs (Sum.inr z)).isSome with
  | true=>rfl
  | false=>exact absurd (by rw [hq];rfl) c
 obtain⟨rfl,_,sm,hd2⟩:=h;rw [av] at hd2;exact q H2 sm hd2
open PySem PySem.Spec PyProof.Rows
def jL {X:Cx}{elt iter tg:Expr}{iy:Nat}{y:Str}{py P7:Pos}{ifs:List Expr}{scope:Scope}{pos:Pos}{wi:TI}{g:TG}{tif:TT}{te:TE}(ts:List Str)(js:List (Nat×Str))(hN:X.N.Nodup)(hiy:X.N[iy]?=some y)(hy:X.env.scope.names.lookup y=some .local)(hc:X.calm=true)(hi:PI X tg iter wi)
  (cp:KS X scope js)(jr:∀y∈scope.names,y.2≠.cell)(jq:scope.kind=.function)
  (AR:∀y∈scope.names,y.2=.local->scope.names.lookup y.1=some .local)
  (hg:∀cl C s1 H1 fp,PG (tK X scope cl C s1 H1 (ts++js.map (·.2)) fp) tg g)
  (WZ:∀cl C s1 H1 fp,EI (tK X scope cl C s1 H1 (ts++js.map (·.2)) fp) ifs tif)(he:∀cl C s1 H1 fp,PE (tK X scope cl C s1 H1 (ts++js.map (·.2)) fp) elt te)
  (hsw:swapsWith (.ListComp elt [⟨tg,iter,ifs,0⟩] scope pos) (some (.Name y py)) P7.line X.env=pure true:=by rfl)(hs:∀x,foldedSetIterable iter X.env x=pure x:=by intro _;rfl) :
  PS X (.Assign [.Name y py] (.ListComp elt [⟨tg,iter,ifs,0⟩] scope pos) P7) (Ms (Fj wi ts js g tif te) (dM iy)):=by
 intro ag s σ H DD I h;rw [exec_Assign_Name_used _ _ _ _ hsw];refine aq (wpAny_standAt (aq ?_));show wpAny _ _ (do let _ <-comprehension (.ListComp elt [⟨tg,iter,ifs,0⟩] scope pos) scope X.env _ (newList []) false (eval iter X.env) (some (assign (.Name y py) X.env))) _ _ s;obtain⟨cl,m_⟩:=xj (env:=X.env) (scope:=scope) λy hy=>I.ok.has y (.inl (cp.all y hy));refine aq (dC (wpAny_comprehension_free (use:=some (assign (.Name y py) X.env)) (Q:=λ_ s'=>SP X ag DD .next s') rfl hs m_.eq jq AR (cX (hi ag s σ H _ I h) λv s1 h1=>cX h1 λTB s2 h2=>?_)) (λ_ s' hq=>aH (aH hq)) λ_ _ e=>e);obtain⟨it,fp,tn,J,H2,e,I2,T,EM,f2,h2⟩:=h2;subst e;obtain⟨W,⟨m0,w0⟩,turn⟩:=h2 s2.heap.objs.size I2.fresh;have Hv:∀b∈fp,b < s2.heap.objs.size:=λb hb=>by obtain⟨o,e,_⟩:=T.obj _ _ EM b hb;exact bu e
 refine gI (wpAny_newFunctionEnv jr (by intro y hy;simp at hy) (λh₁ AQ wZ=>?_) jq);dsimp only at AQ wZ ⊢;generalize NV:s2.heap.push { cls:=.type "list",dict:=none,data:=.seq ([]:List Value).toArray }=G2 at AQ wZ ⊢;have Kj:G2.objs.size=s2.heap.objs.size+1:=by rw [<-NV,j6]
 have Xk:s2.heap.objs.size≠G2.objs.size:=by rw [Kj];exact bE (j8 _)
 have old:∀b o,s2.heap.get? b=some o->h₁.get? b=some o:=λb o e =>
  wZ.extBut b o (by rw [Kj];exact bE (pZ (bu e))) (bH _ (NV ▸ bH _ e))
 have uo:h₁.get? s2.heap.objs.size=some { cls:=.type "list",data:=.seq ([]:List Value).toArray 0 }:=wZ.extBut _ _ Xk (bH _ (NV ▸ cA _ rfl));generalize oq:tK X scope cl G2.objs.size s2 H2 (ts++js.map (·.2)) fp=X2;have I4:Inv X2 [] (dO ts js σ) (upd H2 s2.heap.objs.size (.lst [])) { s2 with heap:=h₁,toks:=s2.toks+([]:List (Str×Value)).length }:=by
  rw [<-oq];exact uT I2 f2 Hv jq jr cp m_ (by rw [Kj];exact j8 _) rfl rfl old AQ uo
 have x1:X2.prog=X.prog:=by rw [<-oq];rfl
 have x2:X2.w=X.w:=by rw [<-oq];rfl
 have x3:X2.K=X.K:=by rw [<-oq];rfl
 have x4:X2.calm=true:=by rw [<-oq];exact hc
 have x5:X2.A=X.A:=by rw [<-oq];rfl
 have x6:X2.env=compEnvC scope cl G2.objs.size X.env:=by rw [<-oq];rfl
 have x7:X2.xe=λ_ _=>False:=by rw [<-oq];rfl
 have W3:PG X2 tg g:=by rw [<-oq];exact hg _ _ _ _ _
 have NJ:EI X2 ifs tif:=by rw [<-oq];exact WZ _ _ _ _ _
 have AU:PE X2 elt te:=by rw [<-oq];exact he _ _ _ _ _
 have Mu:tn 0 h₁:=T.keep _ _ _ EM λb _ o e=>old b o e;have rR:∀{H':Hp}{ki:List (Addr×Obj)},(∀b∈fp,H' b=none)->(∀p∈ki,p.1∉fp)->∀b∈fp,xt X2 ki H' b:=λ{H' ki} hn hp b hb=>by
  have o4:=I4.ok;subst oq;exact⟨hn b hb,(o4.O7 b hb).1,o4.Ec b hb,.inl hb,(o4.O7 b hb).2,λp pL=>by
   have oM:p∈([]:List (Addr×Obj))++ki:=pL;rw [kR] at oM;intro z;exact hp p oM (by rw [z];exact hb)⟩
 have fin:∀{s':Shared}{σ':St}{H':Hp},Inv X2 [] σ' H' s'->DD.nx (σ.set iy (some (.ref s2.heap.objs.size))) H' ->
   compPost (model X.prog X.w) X.A X.xe (some (assign (.Name y py) X.env)) (λ_ s'=>SP X ag DD .next s') (.ref s2.heap.objs.size) G2.objs.size (.ok .next) s':=λ{s' σ' H'} J' q=>by
  subst oq;obtain⟨m',Ke,_⟩:=J'.loc;have I5:Inv X ag σ H' s':=I2.LS (s':=s') J'.os J'.base J'.bZ J'.bare λb hb=>by
   obtain⟨_,f1,_,f3,f4,f5⟩:=f2 b hb;exact⟨f3,f1,f4,f5⟩
  obtain⟨f0,f1,_,f3,f4,f5⟩:=I2.w_ (H':=H') (b:=G2.objs.size) (by rw [Kj];exact i7 _) J'.free;show wpAny _ _ (assign (.Name y py) X.env (.ref s2.heap.objs.size)) _ _ s';refine wpAny_assign_Name (uD I5 hN hiy (.inl hy) (v:=.ref s2.heap.objs.size) rfl (λMO I6 bx=>?_) (.inr hy));obtain⟨a,sb,ha⟩:=bx;have nCa:G2.objs.size≠a:=by
   rcases ha with ha | ha
   .rw [ha];exact f1
   exact(f4 _ _ ha).symm
  refine⟨m',Ke.sameBut sb nCa,λh' OU=>?_⟩;exact⟨_,H',I6.turned (t':=MO.toks) (λb o hb e=>(OU.2 b hb).trans e) f0 f1 f3 f4 f5,q⟩
 have loop:∀s₃:Shared,s₃={ s2 with heap:=h₁,toks:=s2.toks+([]:List (Str×Value)).length } ->
   codeAny (model X.prog X.w) X.A (.compLoop (.ListComp elt [⟨tg,iter,ifs,0⟩] scope pos) 0 (.ref it) (.ref s2.heap.objs.size) (compEnvC scope cl G2.objs.size X.env))
    (compPost (model X.prog X.w) X.A X.xe (some (assign (.Name y py) X.env)) (λ_ s'=>SP X ag DD .next s') (.ref s2.heap.objs.size) G2.objs.size) s₃:=by
  rintro s₃ rfl;subst oq;refine qp (λn s'=>∃i ys σ' H',Inv (tK X scope cl G2.objs.size s2 H2 (ts++js.map (·.2)) fp) [] σ' H' s'/\tn i s'.heap/\(∀b∈fp,H' b=none)/\W i n ys σ' H') ?_ m0
   ⟨0,[],_,_,I4,Mu,λb hb=>by rw [ai (bE (Hv b hb))];exact(f2 b hb).1,w0⟩
  rintro n s' ⟨i,ys,σ0,H',J',uF,RP,w'⟩;rcases turn i n ys σ0 H' w' with ⟨stop,q⟩ | ⟨go,m',hm,step⟩
  .refine dC (T.done (tK X scope cl G2.objs.size s2 H2 (ts++js.map (·.2)) fp) rfl rfl rfl hc i [] s' _ H' (λ_ _=>False) J' (rR RP (by simp)) uF stop) (λr s4 ⟨hr,J4⟩=>?_) λ_ _ z=>z;subst hr;exact fin J4 q
  refine dC (T.item (tK X scope cl G2.objs.size s2 H2 (ts++js.map (·.2)) fp) rfl rfl rfl hc i [] s' _ H' (λ_ _=>False) J' (rR RP (by simp)) uF go) (λr s4 ⟨u,hr,h4⟩=>?_) λ_ _ z=>z;subst hr;refine dC h4 (λ_ s5 bx=>?_) λ_ _ z=>z;obtain⟨xv,H5,J5,r5,y5,CT,RO⟩:=bx;have YH:=J5.pinned (rR RO (by simp)) (T.obj _ _ CT);have back:∀{s7:Shared}{σ7:St}{H7:Hp},Inv (tK X scope cl G2.objs.size s2 H2 (ts++js.map (·.2)) fp) ([]++pF fp s5.heap) σ7 H7 s7->Inv (tK X scope cl G2.objs.size s2 H2 (ts++js.map (·.2)) fp) [] σ7 H7 s7/\tn (i+1) s7.heap/\∀b∈fp,H7 b=none:=λ{s7 σ7 H7} J7=>by
   refine⟨J7.kU,T.keep _ _ _ CT λb hb o e=>(J7.pin (b,o) (fU _ (fU _ (g8 hb e)))).1,λb hb=>?_⟩;obtain⟨o,e,d⟩:=T.obj _ _ CT b hb;exact(J7.pin (b,o) (fU _ (fU _ (g8 hb e)))).2.1
  show wpAny _ _ (assign tg (tK X scope cl G2.objs.size s2 H2 (ts++js.map (·.2)) fp).env u) _ _ s5;refine dC (W3 _ s5 _ H5 xv u _ YH r5 (step xv H5 y5)) (λ_ s6 bx=>?_) λ_ _ z=>z;obtain⟨σ6,H6,J6,q6⟩:=bx;refine dC (NJ _ s6 _ H6 _ J6 q6) (λb s7 bx=>?_) λ_ _ z=>z;obtain⟨H7,J7,q7⟩:=bx;cases b with
  | false =>
   rw [aw c_] at q7 ⊢;obtain⟨J8,Vc,Xv⟩:=back J7;exact⟨m',hm,i+1,ys,σ6,H7,J8,Vc,Xv,q7⟩
  | true =>
   rw [ax rfl] at q7 ⊢;refine dC (AU _ s7 _ H7 _ J7 q7) (λyv s8 bx=>?_) λ_ _ z=>z;obtain⟨y,H8,J8,r8,Xl,Wn,w8⟩:=bx;refine dC (bM (X:=tK X scope cl G2.objs.size s2 H2 (ts++js.map (·.2)) fp) _ s8 _ H8 (.ref s2.heap.objs.size) [y] (.ref s2.heap.objs.size) [yv] (λv H'=>W (i+1) m' (ys++[y]) σ6 H') J8 rfl (.cons r8 .nil) ⟨s2.heap.objs.size,ys,y,rfl,rfl,Xl,Wn,w8⟩)
    (λ_ s9 ⟨_,H9,J9,_,w9⟩=>?_) λ_ _ z=>z
   obtain⟨YI,Mv,N4⟩:=back J9;exact⟨m',hm,i+1,ys++[y],σ6,H9,YI,Mv,N4,w9⟩
 exact codeAny_compStart_list (loop _ rfl) (T.self _ _ _ _ _ Mu (loop _ rfl))
end L2
namespace gT
open PySem L2 M11
section
def wM {l:List Str}(h:l.Nodup):(l.map (Sum.inr:Str->aL)).Nodup:=List.Pairwise.map _ (λa b hab e=>hab (ml e)) h
structure E5 (K:a8)(ps:List (Str×Addr))(st:Str->List (Nat×Nat))(H:Hp)(d:Addr):Prop where
 hd:Rd H d (.dK (ps.map jy))
 n1:(ps.map (·.1)).Nodup
 n2:(ps.map (·.2)).Nodup
 lst:∀p∈ps,∃ts,H p.2=some (.lst (ts.map V.ref))/\Paired (λt (e:Nat×Nat)=>aR K H t [.int (e.1:Int),.int (e.2:Int)]) ts (st p.1)
def Rd.same {H H':Hp}{a:Addr}{u:HO}(h:Rd H a u)(s:aB H H'):Rd H' a u:=h.elim (λz=>.inl (s _ _ z)) λ⟨o,z⟩=>.inr ⟨o,s _ _ z⟩
theorem E5.same {ps:List (Str×Addr)}{st:Str->List (Nat×Nat)}{H H':Hp}{d:Addr}(h:E5 K ps st H d)(s:aB H H'):E5 K ps st H' d :=
 ⟨Rd.same h.hd s,h.n1,h.n2,λp hp=>let ⟨ts,a,b⟩:=h.lst p hp;⟨ts,s _ _ a,Paired.eJ b λ_ _ z=>s.tup z⟩⟩
def vo (st:Str->List (Nat×Nat))(n:Str)(e:Nat×Nat):Str->List (Nat×Nat):=λz=>if z=n then st z++[e] else st z
def E5.more {ps:List (Str×Addr)}{st:Str->List (Nat×Nat)}{H:Hp}{d:Addr}(h:E5 K ps st H d){p:Str×Addr}(hp:p∈ps){ts:List Addr}{t:Addr}{e:Nat×Nat}(a:H p.2=some (.lst (ts.map V.ref)))
  (b:Paired (λt (e:Nat×Nat)=>aR K H t [.int (e.1:Int),.int (e.2:Int)]) ts (st p.1))(c:aR K H t [.int (e.1:Int),.int (e.2:Int)]) :
  E5 K ps (vo st p.1 e) (upd H p.2 (.lst (ts.map V.ref++[.ref t]))) d:=by
 have nd:d≠p.2:=λz=>by
  rcases h.hd with q | ⟨o,q⟩
  .rw [z,a] at q;cases q
  rw [z,a] at q;cases q
 refine⟨?_,h.n1,h.n2,λp' pL=>?_⟩
 .rcases h.hd with q | ⟨o,q⟩
  .exact .inl (by rw [ai nd];exact q)
  exact .inr ⟨o,by rw [ai nd];exact q⟩
 by_cases z:p'=p
 .rw [z];refine⟨ts++[t],by rw [ae,bG];rfl,?_⟩;have e1:vo st p.1 e p.1=st p.1++[e]:=ax rfl;rw [e1];exact gX (Paired.eJ b λ_ _ z=>aW a z) (aW a c)
 have n1:p'.1≠p.1:=λq=>z (by
  have w1:=g6 ps h.n1 p' pL;have w2:=g6 ps h.n1 p hp;rw [q,w2] at w1;injection w1 with w3;injection w3 with w4;exact Prod.ext q w4.symm)
 have n2:p'.2≠p.2:=λq=>by
  obtain⟨i,hi,ei⟩:=qU.mp pL;obtain⟨j,hj,ej⟩:=qU.mp hp;have Kg:i=j:=by
   refine(vw (xs:=ps.map (·.2)) (h₀:=by simpa using hi) (h₁:=by simpa using hj) h.n2).mp ?_;rw [oZ,oZ,ei,ej];exact q
  subst Kg;exact z (ei.symm.trans ej)
 obtain⟨kc,a',b'⟩:=h.lst p' pL;refine⟨kc,by rw [ai n2];exact a',?_⟩;have e1:vo st p.1 e p'.1=st p'.1:=aw n1;rw [e1];exact Paired.eJ b' λ_ _ z=>aW a z
def BN (K:a8):Sp:=λvs H Q _=>∃(R:Addr)(rs:List Addr)(aa:List au),vs=[.ref R]/\aG K H R (rs.map V.ref)/\bJ K H rs aa/\aa.length<=1000/\(∀ru∈aa,ru.2.length<=8) /\
 ∀(d:Addr)(ps:List (Str×Addr))(st:Str->List (Nat×Nat))(bz:List (Str×Nat))(H':Hp),H d=none->aB H H'->H' d=some (.dK (ps.map jy))->E5 K ps st H' d->ps.map (·.1)=hd aa->(∀p∈ps,H p.2=none)->xu aa bz->zk aa aa.length bz ->
  (∀n k j,n∈hd aa->((k,j)∈st n↔Pp aa (hd aa) (λz=>decide (z∈bz.map (·.1))) n k j))->Q (.ref d) H'
def iY:aI ["rules","empty","steps","number","rule","place","part","filled"] ["rules"] (ay zZ):=iT rfl rfl rfl rfl nofun
def Gs (F:iz K "steps_with_like_rows" "steps_with_like_rows" zZ f fd)(T:Txt mg)(GE:aE P w K mg base 1 "found_empties" ["rules"] (px K))(GH:aE P w K mg base 1 "heads_of" ["rules"] (jG K)):bR P w K mg base fY 2 f fd ["rules"] (BN K):=by
 refine F.ok iY (λvs H Q E h=>?_) (λeK A outer s H vs Q E hr h=>?_)
 .obtain⟨R,rs,aa,rfl,_⟩:=h;rfl
 obtain⟨R,rs,aa,rfl,hR,cT,br,h8,q⟩:=h;have hu:=fX hr;refine⟨_,aj (aC (i:=1) iY.nd rfl (Or.inr rfl) (aV (dP rfl) rfl T.Bc fO (ab (bc GE hr rfl (ab (pv 0) ah)) ah)))
  (aj (aC (i:=2) iY.nd rfl (bB rfl) (aV (dP rfl) rfl T.Bc fO (ab
   (ba ["name"] [] rfl (aX (bc GH hr rfl (ab (pv 0) ah))) (a9 rfl rfl) nofun rfl nofun
    (λ_ _ _ _ _=>ao (i:=0) (show (["name"]:List Str).Nodup by decide +kernel) rfl (bB rfl)) (λ_ _ _ _ _=>bQ)
    (λ_ _ _ _ _=>bS (ab (pv 0) (ab (bA ah) ah)))) ah)))
  (aj (bK b9 rfl (n5 rfl T.Ko (ab (pv 0) ah)) (gP rfl (aA (ao (i:=3) iY.nd rfl (bB rfl)) (aA (ao (i:=4) iY.nd rfl (bB rfl)) bV)))
   (aj (jL (iy:=7) ["place","part"] [(1,"empty")] iY.nd rfl rfl rfl (nZ rfl T.Ko (ab (aP bq (pv 4) ar (λ_ _=>rfl)) ah)) (a9 rfl rfl) nofun rfl nofun
    (λ_ _ _ _ _=>ff (n:=2) K rfl (aA (ao (i:=0) (show (["place","part","empty"]:List Str).Nodup by decide +kernel) rfl (bB rfl)) (aA (ao (i:=1) (show (["place","part","empty"]:List Str).Nodup by decide +kernel) rfl (bB rfl)) bV)))
    (λ_ _ _ _ _=>hU (dH (dX hu (pv 1) (pv 2)))) (λ_ _ _ _ _=>pv 0))
   (ak (bK b9 rfl (nZ rfl T.Ko (ab (aP bq (pv 4) ar (λ_ _=>rfl)) ah)) (gP rfl (aA (ao (i:=5) iY.nd rfl (bB rfl)) (aA (ao (i:=6) iY.nd rfl (bB rfl)) bV)))
    (ak (bU (PW.pt (jb (dH (jc hu (pv 6) (pv 2))) (iA (bw (Di hu) (pv 7) (bS (ab (bA ah) (ab (bA (ab (pv 5) ah)) ah))) rfl))))
     (ak (cC (gR f_ gK gL bM (eI hu (pv 2) (aP bq (pv 4) ar (λ_ _=>rfl)) (λ_ _=>rfl)) (ab (bS (ab (pv 3) (ab (pv 5) ah))) ah)))) aS)))))
   )
  (ak (aQ (pv 2))))),?_⟩
 nofun
 have ll:=a_ cT;refine⟨_,rfl,R,rs,aa,rfl,hR,cT,br,h8,λD1 CQ bz H1 f1 s1 e1 w1 emp Eh=>?_⟩;have Wc:Paired (λt (kv:aL×V)=>aR K H1 t [kV kv.1,kv.2]) CQ (bz.map λp=>((Sum.inr p.1:aL),V.int (p.2:Int))):=cu w1 λ_ _ z=>z;refine⟨D1,CQ,_,rfl,e1,Wc,λe he=>?_⟩;have ekE:df (bz.map λp=>((Sum.inr p.1:aL),V.int (p.2:Int))) []=bz.map λp=>((Sum.inr p.1:aL),V.int (p.2:Int)):=oA _ [] (by
  rw [kR,iV];have:=wM emp.nd;rw [iV] at this;exact this)
 rw [ekE];have Dy:∀z,(bf (bz.map λp=>((Sum.inr p.1:aL),V.int (p.2:Int))) (Sum.inr z)).isSome=decide (z∈bz.map (·.1)):=λz=>by
  rw [ng,dQ,decide_eq_true_iff,iV];have:(bz.map λp:Str×Nat=>(Sum.inr p.1:aL))=(bz.map (·.1)).map Sum.inr:=by rw [iV];rfl
  show _∈(bz.map λp:Str×Nat=>(Sum.inr p.1:aL))↔_;rw [this];exact cN
 generalize (bz.map λp=>((Sum.inr p.1:aL),V.int (p.2:Int)))=kE at Dy ⊢;have s2:=s1.trans (af he (.dK kE));have e2:upd H1 e (.dK kE) e=some (.dK kE):=ae;generalize upd H1 e (.dK kE)=H2 at s2 e2;refine⟨_,rfl,R,rs,aa,rfl,s2.seq hR,cT.same s2,br,λD2 H3 f3 s3 e3=>?_⟩;have J1:=iE (aa.map (·.1)) [];simp only [iX,av] at J1;refine⟨D2,rfl,⟨_,aG.of e3⟩,λD3 yC=>tO (aG.of e3) ∅ yC λts ps H4 s4 e4 m4 p4 l4 n4=>?_⟩;have n1:(ps.map (·.1)).Nodup:=by rw [m4];exact pR _ kK
 have DF:Paired (λt (kv:aL×V)=>aR K H4 t [kV kv.1,kv.2]) ts (ps.map jy):=cu p4 λ_ _ z=>z;refine⟨D3,ts,_,rfl,e4,DF,λd ub=>?_⟩;have RY:df (ps.map jy) []=ps.map jy:=oA _ [] (by
  rw [kR,n8];exact wM n1)
 rw [RY];have s5:=((s2.trans s3).trans s4).trans (af ub (.dK (ps.map jy)));have ua:=af ub (.dK (ps.map jy));have e5:upd H4 d (.dK (ps.map jy)) d=some (.dK (ps.map jy)):=ae;have R8:=ua _ _ (s4 _ _ (s3 _ _ e2));have zB:H d=none:=((s2.trans s3).trans s4).free ub;have S5:E5 K ps (λ_=>[]) (upd H4 d (.dK (ps.map jy))) d:=⟨.inl e5,n1,n4,λp hp=>⟨[],ua _ _ (l4 p hp).1,.nil⟩⟩;have O5:∀p∈ps,H p.2=none:=λp hp=>(s2.trans s3).free (l4 p hp).2.1;generalize upd H4 d (.dK (ps.map jy))=H5 at s5 e5 R8 S5;clear ua;have eb:(λz=>(bf kE (Sum.inr z)).isSome)=λz=>decide (z∈bz.map (·.1)):=funext Dy;refine⟨_,rfl,R,_,rfl,s5.seq hR,?_⟩
 let qF:pU:=λi σ H6=>∃(st:Str->List (Nat×Nat))(y3 y4 y5 y6 y7:Option V),σ=[aM R,aM e,aM d,y3,y4,y5,y6,y7]/\aB H H6/\H6 e=some (.dK kE)/\H6 d=some (.dK (ps.map jy))/\E5 K ps st H6 d /\
  (∀n,(st n).length<=8 * i)/\∀n k j,n∈hd aa->((k,j)∈st n↔k < i/\Pp aa (hd aa) (λz=>decide (z∈bz.map (·.1))) n k j)
 refine lG (xs:=rs.map V.ref) qF
  ⟨λ_=>[],none,none,none,none,none,rfl,s5,R8,e5,S5,by simp,by simp⟩ ?_ ?_ ?_
 .rintro i σ H6 _ ⟨st,y3,y4,y5,y6,y7,rfl,s6,_⟩;exact s6.seq hR
 .rintro i x σ H6 t ex ⟨st,y3,y4,y5,y6,y7,rfl,s6,Of,LJ,S6,l6,c6⟩ ht
  ac_nf0
  rw [bo] at ex;obtain⟨r,er,rfl⟩:=cg.mp ex;obtain⟨ru,tD,p,v1,v2⟩:=cT.get er;have jU:=b8 tD;have O2:=h8 ru jU;have li:=(bj.mp tD).1;have uJ:=af ht (.tup [.int (i:Int),.ref r]);have Ls:aR K (upd H6 t (.tup [.int (i:Int),.ref r])) t [.int (i:Int),.ref r]:=aR.of ae;have s7:=s6.trans uJ;have Oe:=uJ _ _ Of;have ed7:=uJ _ _ LJ;have S7:=S6.same uJ;generalize upd H6 t (.tup [.int (i:Int),.ref r])=H7 at Ls s7 Oe ed7 S7;refine⟨t,_,rfl,Ls,rfl,_,_,rfl,_,_,rfl,rfl,?_⟩;refine⟨_,rfl,r,_,_,_,rfl,rfl,s7.tup v1,rfl,p,_,rfl,s7.tup v2,λD5 Lz=>yT rfl (s7.tup v2) ∅ Oe Lz λH8 OM e8=>?_⟩;rw [eb] at e8;have s8:=s7.trans OM;have ee8:=OM _ _ Oe;have XN:=OM _ _ ed7;have S8:=S7.same OM;have nD5:∀p∈ps,p.2≠D5:=λp hp z=>by
   obtain⟨kc,a,_⟩:=S7.lst p hp;rw [z,Lz] at a;cases a
  obtain⟨pn,yA,zC⟩:∃pn∈ps,pn.1=ru.1:=by
   have:ru.1∈ps.map (·.1):=by rw [m4];exact(hV _ _ _).mpr (.inr (j_ jU))
   obtain⟨pn,a,b⟩:=cy.mp this;exact⟨pn,a,b⟩
  refine⟨_,rfl,r,_,_,_,rfl,rfl,s8.tup v1,rfl,p,_,rfl,s8.tup v2,?_⟩
  let Bq:pU:=λj σ H9=>∃(st:Str->List (Nat×Nat))(y5 y6:Option V),σ=[aM R,aM e,aM d,some (.int (i:Int)),aM r,y5,y6,aM D5]/\aB H H9/\H9 e=some (.dK kE)/\H9 d=some (.dK (ps.map jy))/\E5 K ps st H9 d /\
   H9 D5=some (.lst ((Ea (λz=>decide (z∈bz.map (·.1))) ru.2 ru.2.length).map V.int))/\(∀n,(st n).length<=8 * i+j)/\∀n k j',n∈hd aa->((k,j')∈st n↔(k < i\/(k=i/\j' < j))/\Pp aa (hd aa) (λz=>decide (z∈bz.map (·.1))) n k j')
  refine pN (xs:=ru.2.map V.str) Bq
   ⟨st,_,_,rfl,s8,ee8,XN,S8,e8,λn=>l6 n,λn k j' hn=>by rw [c6 n k j' hn];simp⟩ ?_ ?_ ?_
  .rintro j σ H9 _ ⟨st,y5,y6,rfl,s9,_⟩;exact s9.tup v2
  .rintro j x σ H9 t2 pO ⟨st,y5,y6,rfl,s9,XJ,Og,S9,e9,l9,c9⟩ jz
   ac_nf0
   rw [bo] at pO;obtain⟨z,ez,rfl⟩:=cg.mp pO;have lj:=(bj.mp ez).1;have x8:=af jz (.tup [.int (j:Int),.str z]);have Hl:aR K (upd H9 t2 (.tup [.int (j:Int),.str z])) t2 [.int (j:Int),.str z]:=aR.of ae;have uh:=s9.trans x8;have xf:=x8 _ _ XJ;have qD:=x8 _ _ Og;have E3:=x8 _ _ e9;have Ma:=S9.same x8;generalize upd H9 t2 (.tup [.int (j:Int),.str z])=zD at Hl uh xf qD E3 Ma;have mem:(bf (ps.map jy) (Sum.inr z)).isSome=true↔z∈hd aa:=by rw [dQ,n8,m4];exact cN
   have kX:¬(z∈hd aa/\J0 (λz=>decide (z∈bz.map (·.1))) ru.2 j=true)->∀n k j',n∈hd aa->((k,j')∈st n↔(k < i\/(k=i/\j' < j+1))/\Pp aa (hd aa) (λz=>decide (z∈bz.map (·.1))) n k j'):=λhn n k j' WS=>by
    rw [c9 n k j' WS];constructor
    .rintro⟨h1,h3⟩;exact⟨∅,h3⟩
    rintro⟨h1,h3⟩;refine⟨?_,h3⟩;by_cases c:k=i/\j'=j
    .obtain⟨C7,z',a1,a2,a3,a4,a5⟩:=h3;rw [c.1,tD] at a1;cases a1;rw [c.2] at a5;rw [c.2,ez] at a3;cases a3;exact absurd ⟨a4,a5⟩ hn
    omega
   have ZK:∀n,(st n).length<=8 * i+(j+1):=λn=>by have:=l9 n;omega
   refine⟨t2,_,rfl,Hl,rfl,_,_,rfl,_,_,rfl,rfl,?_⟩;refine⟨_,rfl,_,rfl,d,_,rfl,bX.k (k:=Sum.inr z) qD,_,rfl,?_⟩;refine cE (λc=>?_) (λc=>?_)
   .have hz:=mem.mp c;refine⟨_,rfl,rM,λl1 Rp=>?_⟩;have FP:=af Rp (.lst []);have Jb:upd zD l1 (.lst []) l1=some (.lst []):=ae;have nl1:l1≠D5:=(az E3 Rp).symm;generalize upd zD l1 (.lst [])=zg at FP Jb;refine⟨_,rfl,xE,λl2 um=>?_⟩;have K7:=af um (.lst [.int (j:Int)]);have LO:upd zg l2 (.lst [.int (j:Int)]) l2=some (.lst [.int (j:Int)]):=ae;have VO:l2≠D5:=(az (FP _ _ E3) um).symm;generalize upd zg l2 (.lst [.int (j:Int)])=vp at K7 LO;refine⟨oK,λt3 Q8=>?_⟩;have MN:=af Q8 (.tup [.ref l1,.ref l2]);have e13:aR K (upd vp t3 (.tup [.ref l1,.ref l2])) t3 [.ref l1,.ref l2]:=aR.of ae;generalize upd vp t3 (.tup [.ref l1,.ref l2])=uc at MN e13;have qy:=(FP.trans K7).trans MN;refine⟨t3,D5,l1,l2,_,[],[(j:Int)],rfl,rfl,e13,aG.of (qy _ _ E3),aG.of (MN _ _ (K7 _ _ Jb)),aG.of (MN _ _ LO),nl1,VO,_,rfl,?_⟩;have Iv:=Ma.same qy;have MM:=uh.trans qy;refine cE (λc2=>?_) (λc2=>?_)
    .obtain⟨YX,an,bn⟩:=Iv.lst pn yA;have vn:=g6 ps n1 pn yA;rw [zC] at vn;have hg:bX uc d (.str ru.1) (some (.ref pn.2)):=by
      have:=bX.k (k:=Sum.inr ru.1) (qy _ _ qD);rw [vn] at this;exact this
     have ltn:=a_ bn;have l9n:=l9 pn.1;refine⟨_,rfl,_,rfl,r,_,_,_,rfl,rfl,MM.tup v1,rfl,d,_,rfl,hg,.inl ⟨rfl,_,aG.of an⟩,_,rfl,_,rfl,oK,λt4 DJ=>?_⟩;have Ad:=af DJ (.tup [.int (i:Int),.int (j:Int)]);have e14:aR K (upd uc t4 (.tup [.int (i:Int),.int (j:Int)])) t4 [.int (i:Int),.int (j:Int)]:=aR.of ae;generalize upd uc t4 (.tup [.int (i:Int),.int (j:Int)])=UD at Ad e14;have Sy:=Iv.same Ad;have KG:=Ad _ _ an;have Yh:=Paired.eJ bn λt' (e':Nat×Nat)(z:aR K uc t' [.int (e'.1:Int),.int (e'.2:Int)])=>Ad.tup z;refine⟨pn.2,_,_,rfl,rfl,KG,bF (by rw [av];omega),?_⟩;have YD:=Sy.more (e:=(i,j)) yA KG Yh e14;have ne1:e≠pn.2:=λz=>by have:=Ad _ _ (qy _ _ xf);rw [z,KG] at this;cases this
     have ne2:d≠pn.2:=λz=>by have:=Ad _ _ (qy _ _ qD);rw [z,KG] at this;cases this
     refine⟨vo st pn.1 (i,j),_,_,rfl,λb o hb=>?_,by rw [ai ne1];exact Ad _ _ (qy _ _ xf),by rw [ai ne2];exact Ad _ _ (qy _ _ qD),YD,by rw [ai (nD5 pn yA).symm];exact Ad _ _ (qy _ _ E3),λn=>?_,λn k j' WS=>?_⟩
     .rw [ai (λz=>by rw [z,O5 pn yA] at hb;cases hb)];exact Ad _ _ (MM b o hb)
     .have:=l9 n;unfold vo
      split
      .rw [bp];simp;omega
      omega
     have hit:Pp aa (hd aa) (λz=>decide (z∈bz.map (·.1))) ru.1 i j:=⟨ru,z,tD,rfl,ez,hz,c2⟩;have LV:=c9 n k j' WS;unfold vo;by_cases cn:n=pn.1
     .rw [ax cn,cq,bC,LV];constructor
      .rintro(⟨h1,h3⟩ | h1)
       .exact⟨∅,h3⟩
       cases h1;exact⟨∅,by rw [cn,zC];exact hit⟩
      rintro⟨h1,h3⟩;by_cases cc:k=i/\j'=j
      .exact .inr (by rw [cc.1,cc.2])
      exact .inl ⟨∅,h3⟩
     rw [aw cn,LV];constructor
     .rintro⟨h1,h3⟩;exact⟨∅,h3⟩
     rintro⟨h1,h3⟩;refine⟨?_,h3⟩;by_cases cc:k=i/\j'=j
     .obtain⟨C7,z',a1,a2,_⟩:=h3;rw [cc.1,tD] at a1;cases a1;exact absurd (a2.symm.trans zC.symm) cn
     omega
    exact⟨st,_,_,rfl,MM,qy _ _ xf,qy _ _ qD,Iv,qy _ _ E3,ZK,kX λ⟨_,h⟩=>c2 h⟩
   exact⟨st,_,_,rfl,uh,xf,qD,Ma,E3,ZK,kX λ⟨h,_⟩=>c (mem.mpr h)⟩
  rintro σ H9 ⟨st,y5,y6,rfl,s9,XJ,Og,S9,e9,l9,c9⟩;rw [av] at l9 c9;refine⟨st,_,_,_,_,_,rfl,s9,XJ,Og,S9,λn=>?_,λn k j' hn=>?_⟩
  .have:=l9 n;omega
  rw [c9 n k j' hn];constructor
  .rintro⟨h1 | ⟨h1,h2⟩,h3⟩
   .exact⟨∅,h3⟩
   exact⟨∅,h3⟩
  rintro⟨h1,h3⟩;refine⟨?_,h3⟩;by_cases c:k < i
  .exact .inl c
  refine .inr ⟨∅,?_⟩;obtain⟨C7,z',a1,_,a3,_⟩:=h3;have:k=i:=by omega
  rw [this,tD] at a1;cases a1;exact(bj.mp a3).1
 rintro σ H6 ⟨st,y3,y4,y5,y6,y7,rfl,s6,Of,LJ,S6,l6,c6⟩;rw [av,ll] at c6;refine⟨_,rfl,q d ps st bz H6 zB s6 LJ S6 m4 O5 emp Eh λn k j hn=>?_⟩;rw [c6 n k j hn];constructor
 .exact λh=>h.2
 intro h;obtain⟨C7,_,a1,_⟩:=id h;exact⟨(bj.mp a1).1,h⟩
end
end gT
namespace L2
open PySem
def bX.r {H:Hp}{a:Addr}{kvs:List (aL×V)}{k:aL}(e:Rd H a (.dK kvs)):bX H a (kV k) (bf kvs k):=.inl ⟨kvs,k,e,rfl,rfl⟩
end L2
namespace gT
open PySem L2 M11
section
def Down (aa:List au) (names:List Str)(st:Str->List (Nat×Nat))(rk:Str->Nat):Prop:=∀n∈names,∀e∈st n,∃ru z,aa[e.1]?=some ru/\ru.2[e.2]?=some z/\z∈names/\rk z < rk n
def K1 (K:a8):Sp:=λvs H Q _=>∃(R d:Addr)(rs:List Addr)(aa:List au)(ps:List (Str×Addr))(st:Str->List (Nat×Nat))(name:Str)(rk:Str->Nat),vs=[.ref R,.ref d,.str name]/\aG K H R (rs.map V.ref)/\bJ K H rs aa/\aa.length<=1000 /\
 E5 K ps st H d/\ps.length<=1000/\name∈ps.map (·.1)/\Down aa (ps.map (·.1)) st rk/\∀(D:Addr)(H':Hp),H D=none->aB H H'->H' D=some (.lst [])->Q (.ref D) H'
structure E4 (K:a8) (names:List Str)(rk:Str->Nat)(name:Str)(H H5:Hp)(D m:Addr)(mF:List Addr)(kb:List (Str×Addr)) (ms:List Str)(kvs:List (aL×V)):Prop where
 sm:aB H H5
 hD:H5 D=some (.lst (mF.map V.ref))
 hm:H5 m=some (.dK kvs)
 keys:kvs.map (·.1)=ms.map Sum.inr
 nd:ms.Nodup
 sub:∀x∈ms,x∈names
 wl:kb.length=ms.length+1
 wv:Paired (λt (e:Str×Addr)=>aR K H5 t [.str e.1,.ref e.2]) mF kb
 we:∀e∈kb,e.1∈names/\rk e.1<=rk name/\∃xs,H5 e.2=some (.lst xs)/\xs.length<=kb.length/\e.2≠D
def E4.same {names:List Str}{rk:Str->Nat}{name:Str}{H H5 H6:Hp}{D m:Addr}{mF:List Addr}{kb:List (Str×Addr)}{ms:List Str}{kvs:List (aL×V)}(h:E4 K names rk name H H5 D m mF kb ms kvs)(s:aB H5 H6):E4 K names rk name H H6 D m mF kb ms kvs :=
 ⟨h.sm.trans s,s _ _ h.hD,s _ _ h.hm,h.keys,h.nd,h.sub,h.wl,Paired.eJ h.wv λ_ _ z=>s.tup z,λe he=>let ⟨a,b,xs,c,d⟩:=h.we e he;⟨a,b,xs,s _ _ c,d⟩⟩
def E4.len {names:List Str}{rk:Str->Nat}{name:Str}{H H5:Hp}{D m:Addr}{mF:List Addr}{kb:List (Str×Addr)}{ms:List Str}{kvs:List (aL×V)}(h:E4 K names rk name H H5 D m mF kb ms kvs):mF.length=kb.length/\kvs.length=ms.length/\ms.length<=names.length:=by
 refine⟨a_ h.wv,?_,gA _ _ h.nd h.sub⟩;have:=congrArg List.length h.keys;simpa using this
def E4.more {names:List Str}{rk:Str->Nat}{name z:Str}{H H5 H9:Hp}{D m t c:Addr}{mF:List Addr}{kb:List (Str×Addr)}{ms:List Str}{kvs:List (aL×V)}{xs:List V}(h:E4 K names rk name H H5 D m mF kb ms kvs)(fD:H D=none)(fm:H m=none)
  (hz:z∈names)(hr:rk z<=rk name)(hn:z∉ms)(s:aB (upd H5 m (.dK (bL kvs (Sum.inr z) (.bl true)))) H9)(ht:aR K H9 t [.str z,.ref c])(hc:H9 c=some (.lst xs))(hx:xs.length<=kb.length+1)(nc:c≠D) :
  E4 K names rk name H (upd H9 D (.lst (mF.map V.ref++[.ref t]))) D m (mF++[t]) (kb++[(z,c)]) (ms++[z]) (bL kvs (Sum.inr z) (.bl true)):=by
 have Tp:D≠m:=λe=>by have:=h.hD;rw [e,h.hm] at this;cases this
 have Ly:H9 D=some (.lst (mF.map V.ref)):=s _ _ (by rw [ai Tp];exact h.hD);have hm9:H9 m=some (.dK (bL kvs (Sum.inr z) (.bl true))):=s _ _ ae;refine⟨λb o hb=>?_,by rw [ae,bG];rfl,by rw [ai Tp.symm];exact hm9,?_,?_,?_,?_,?_,?_⟩
 .rw [ai (λe=>by rw [e,fD] at hb;cases hb)];exact s _ _ (by rw [ai (λe=>by rw [e,fm] at hb;cases hb)];exact h.sm b o hb)
 .rw [iB (by rw [h.keys];exact λe=>hn (cN.mp e)),h.keys,bG];rfl
 .refine j9.mpr ⟨h.nd,by simp,λa ha b hb e=>?_⟩;rw [bC.mp hb] at e;exact hn (e ▸ ha)
 .intro x Wt;rcases cq.mp Wt with e | e
  .exact h.sub x e
  rw [bC.mp e];exact hz
 .rw [bp,bp,h.wl];rfl
 .exact gX (Paired.eJ h.wv λ_ _ e=>aW Ly (s.tup (hZ h.hm e))) (aW Ly ht)
 intro e he;rw [bp];rcases cq.mp he with e' | e'
 .obtain⟨a,b,ys,c1,d1,n1⟩:=h.we e e';exact⟨a,b,ys,by rw [ai n1];exact s _ _ (by rw [ai (λq=>by rw [q,h.hm] at c1;cases c1)];exact c1),∅,n1⟩
 rw [bC.mp e'];exact⟨hz,hr,xs,by rw [ai nc];exact hc,hx,nc⟩
def nN:aI ["rules","steps","name","ways","met","at","way","number","place","part"] ["rules","steps","name"] (ay MC):=iT rfl rfl rfl rfl nofun
def M6 (F:iz K "way_back" "way_back" MC f fd)(T:Txt mg):bR P w K mg base fY 1 f fd ["rules","steps","name"] (K1 K):=by
 refine F.ok nN (λvs H Q E h=>?_) (λeK A outer s H vs Q E hr h=>?_)
 .obtain⟨R,d,rs,aa,ps,st,name,rk,rfl,_⟩:=h;rfl
 obtain⟨R,d,rs,aa,ps,st,name,rk,rfl,hR,cT,br,S,Z5,Hr,W9,q⟩:=h;have hu:=fX hr;refine⟨_,aj (aC (i:=3) nN.nd rfl (bB rfl) (bA (ab (bS (ab (pv 2) (ab (bA ah) ah))) ah)))
  (aj (aC (i:=4) nN.nd rfl (bB rfl) gQ)
  (aj (aC (i:=5) nN.nd rfl (bB rfl) ar)
  (aj (k9 b9 (bw qi (pv 5) (aF aK rfl T.len dJ (ab (pv 3) ah)) (bW _))
   (aj (aC (i:=6) nN.nd rfl (bB rfl) (aP bq (aP bT (pv 3) (pv 5) (λ_ _=>rfl)) ar (λ_ _=>rfl)))
   (aj (bK b9 rfl (aX (eI hu (pv 1) (aP bq (aP bT (pv 3) (pv 5) (λ_ _=>rfl)) ar (λ_ _=>rfl)) (λ_ _=>rfl))) (gP rfl (aA (ao (i:=7) nN.nd rfl (bB rfl)) (aA (ao (i:=8) nN.nd rfl (bB rfl)) bV)))
    (aj (aC (i:=9) nN.nd rfl (bB rfl) (aP bq (aP bq (aP bT (pv 0) (pv 7) (λ_ _=>rfl)) ar (λ_ _=>rfl)) (pv 8) (λ_ _=>rfl)))
    (aj (bU (bw iO (pv 9) (pv 2) (bW _)) (ak iN) aS)
    (ak (bU (dH (dX hu (pv 9) (pv 4)))
     (aj (iC hu (pv 4) (pv 9) dW rfl) (ak (cC (gR f_ gK gL bM (pv 3) (ab (bS (ab (pv 9) (ab (aZ jP (pv 6) (bA (ab (bS (ab (pv 7) (ab (pv 8) ah))) ah))) ah))) ah))))) aS)))))
   (ak (MU (i:=5) nN.nd rfl (bB rfl) ar Nu)))))
  (ak (aQ (bA ah)))))),?_⟩
 nofun
 have uU:(ps.map (·.1)).length=ps.length:=av _;refine⟨_,rfl,rM,λl0 TU=>?_⟩;have s1:=af TU (.lst []);have e1:upd H l0 (.lst []) l0=some (.lst []):=ae;generalize upd H l0 (.lst [])=H1 at s1 e1;refine⟨oK,λt0 ht0=>?_⟩;have s2:=af ht0 (.tup [.str name,.ref l0]);have e2:aR K (upd H1 t0 (.tup [.str name,.ref l0])) t0 [.str name,.ref l0]:=aR.of ae;generalize upd H1 t0 (.tup [.str name,.ref l0])=H2 at s2 e2;refine⟨xE,λD hD=>?_⟩;have s3:=af hD (.lst [.ref t0]);have e3:upd H2 D (.lst [.ref t0]) D=some (.lst ([t0].map V.ref)):=ae;have nl0:l0≠D:=az (s2 _ _ e1) hD;generalize upd H2 D (.lst [.ref t0])=H3 at s3 e3;intro m hm;have s4:=af hm (.dK []);have e4:upd H3 m (.dK []) m=some (.dK []):=ae;generalize upd H3 m (.dK [])=H4 at s4 e4;have fD:H D=none:=(s1.trans s2).free hD;have fm:H m=none:=((s1.trans s2).trans s3).free hm;have W0:E4 K (ps.map (·.1)) rk name H H4 D m [t0] [(name,l0)] [] []:=⟨((s1.trans s2).trans s3).trans s4,s4 _ _ e3,e4,rfl,kK,by simp,rfl,.cons ((s3.trans s4).tup e2) .nil,λe he=>by
  rw [bC.mp he];exact⟨Hr,aD _,[],s4 _ _ (s3 _ _ (s2 _ _ e1)),by simp,nl0⟩⟩
 refine⟨λmm σ H5=>∃(mF:List Addr)(kb:List (Str×Addr)) (ms:List Str)(kvs:List (aL×V)) (at_:Nat)(y6 y7 y8 y9:Option V),σ=[aM R,aM d,some (.str name),aM D,aM m,some (.int (at_:Int)),y6,y7,y8,y9]/\E4 K (ps.map (·.1)) rk name H H5 D m mF kb ms kvs /\
  at_<=kb.length/\mm=1002 - at_,⟨1002,[t0],[(name,l0)],[],[],0,none,none,none,none,rfl,W0,by simp,rfl⟩,?_⟩
 rintro mm σ H5 ⟨mF,kb,ms,kvs,at_,y6,y7,y8,y9,rfl,W,hat,rfl⟩;obtain⟨lw,lk,lm⟩:=W.len;have aac:=W.wl;refine⟨_,rfl,_,rfl,D,_,rfl,.inl (aG.of W.hD),_,_,rfl,rfl,_,rfl,?_⟩;refine cE (λc=>?_) (λc=>?_)
 .have c':=dA c;rw [av,lw] at c';have je:at_ < kb.length:=by omega
  obtain⟨n,l,en⟩:∃n l,kb[at_]?=some (n,l):=⟨(kb[at_]).1,(kb[at_]).2,b_ je⟩;obtain⟨t1,et1,Lu⟩:=Paired.at_ W.wv at_ (n,l) en;have Ux:lS (mF.map V.ref) (at_:Int)=some (.ref t1):=cf (by rw [bo,et1];rfl);obtain⟨hn,hrn,xs,hl,hxl,Nc⟩:=W.we (n,l) (b8 en);dsimp only at hn hrn hl Nc;obtain⟨pn,yA,zC⟩:=cy.mp hn;have vn:=g6 ps S.n1 pn yA;rw [zC] at vn;obtain⟨YX,an,bn⟩:=S.lst pn yA;rw [zC] at bn;refine⟨λσ H5=>∃(mF:List Addr)(kb:List (Str×Addr)) (ms:List Str)(kvs:List (aL×V))(y6 y7 y8 y9:Option V),σ=[aM R,aM d,some (.str name),aM D,aM m,some (.int ((at_+1:Nat):Int)),y6,y7,y8,y9]/\E4 K (ps.map (·.1)) rk name H H5 D m mF kb ms kvs/\at_+1<=kb.length,?_,?_⟩
  .rintro σ H6 ⟨mF,kb,ms,kvs,y6,y7,y8,y9,rfl,W2,h2⟩;exact⟨1002 - (at_+1),∅,mF,kb,ms,kvs,at_+1,_,_,_,_,rfl,W2,h2,rfl⟩
  refine⟨_,rfl,_,rfl,D,_,_,_,rfl,rfl,aG.of W.hD,Ux,t1,_,_,_,rfl,rfl,Lu,rfl,?_⟩;have hg:bX H5 d (.str n) (some (.ref pn.2)):=by
   have:=bX.r (k:=Sum.inr n) (Rd.same S.hd W.sm);rw [vn] at this;exact this
  refine⟨_,rfl,_,rfl,_,rfl,D,_,_,_,rfl,rfl,aG.of W.hD,Ux,t1,_,_,_,rfl,rfl,Lu,rfl,d,_,rfl,hg,pn.2,rfl,⟨_,aG.of (W.sm _ _ an)⟩,?_⟩
  let qF:pU:=λi σ H6=>∃(mF:List Addr)(kb:List (Str×Addr)) (ms:List Str)(kvs:List (aL×V))(y7 y8 y9:Option V),σ=[aM R,aM d,some (.str name),aM D,aM m,some (.int (at_:Int)),aM l,y7,y8,y9]/\E4 K (ps.map (·.1)) rk name H H6 D m mF kb ms kvs /\
   at_+1<=kb.length/\∃e∈kb,e.2=l
  refine cR (xs:=YX.map V.ref) qF ⟨mF,kb,ms,kvs,_,_,_,rfl,W,je,(n,l),b8 en,rfl⟩ ?_ ?_ ?_
  .rintro i σ H6 _ ⟨mF,kb,ms,kvs,y7,y8,y9,rfl,W2,_⟩;exact aG.of (W2.sm _ _ an)
  .rintro i x σ H6 ex ⟨mF,kb,ms,kvs,y7,y8,y9,rfl,W2,h2,e0,W8,XM⟩
   ac_nf0
   rw [bo] at ex;obtain⟨ti,eti,rfl⟩:=cg.mp ex;have lbn:=a_ bn;have lti:=(bj.mp eti).1;obtain⟨⟨k,j⟩,ekj⟩:∃e,(st n)[i]?=some e:=⟨(st n)[i]'∅,b_ ∅⟩;obtain⟨ti',RV,hti⟩:=Paired.at_ bn i (k,j) ekj;rw [eti] at RV;cases RV;obtain⟨ru,z,er,ez,hz,hrk⟩:=W9 n hn (k,j) (b8 ekj);obtain⟨r,Kn,p,v1,v2⟩:=Paired.at_ cT k ru er;have atr:lS (rs.map V.ref) (k:Int)=some (.ref r):=cf (by rw [bo,Kn];rfl);have Yr:lS (ru.2.map V.str) (j:Int)=some (.str z):=cf (by rw [bo,ez];rfl);obtain⟨lw2,Tq,lm2⟩:=W2.len;have ZD:=W2.wl;refine⟨ti,_,rfl,W2.sm.tup hti,rfl,_,_,rfl,_,_,rfl,rfl,?_⟩;refine⟨_,rfl,_,rfl,R,_,_,_,rfl,rfl,W2.sm.seq hR,atr,r,_,_,_,rfl,rfl,W2.sm.tup v1,rfl,_,rfl,p,_,_,_,rfl,rfl,W2.sm.tup v2,Yr,?_⟩;refine⟨_,rfl,_,rfl,rfl,_,rfl,?_⟩;have nz:z≠name:=λe=>by rw [e] at hrk;omega
   refine cE (λc=>absurd (dA c) (λe=>nz (by injection e))) (λ_=>?_);have mem:(bf kvs (Sum.inr z)).isSome=true↔z∈ms:=by rw [dQ,W2.keys];exact cN
   refine⟨_,rfl,_,rfl,m,_,rfl,bX.k (k:=Sum.inr z) W2.hm,_,rfl,?_⟩;refine cE (λc=>?_) (λc=>?_)
   .have nm:z∉ms:=λh=>by rw [mem.mpr h] at c;exact absurd c nofun
    refine⟨_,rfl,_,rfl,m,_,rfl,pX.k (k:=Sum.inr z) W2.hm (bF ∅),?_⟩;obtain⟨_,_,Jl,um,aaj,VO⟩:=W2.we e0 W8;rw [XM] at um VO;have Tp:D≠m:=λe=>by have:=W2.hD;rw [e,W2.hm] at this;cases this
    have nlm:l≠m:=λe=>by rw [e,W2.hm] at um;cases um
    have NW:upd H6 m (.dK (bL kvs (Sum.inr z) (.bl true))) D=some (.lst (mF.map V.ref)):=by rw [ai Tp];exact W2.hD
    have hlu:upd H6 m (.dK (bL kvs (Sum.inr z) (.bl true))) l=some (.lst Jl):=by rw [ai nlm];exact um
    refine⟨_,rfl,.inl ⟨rfl,_,aG.of NW⟩,_,rfl,_,rfl,_,rfl,_,rfl,oK,λt4 DJ=>?_⟩;have Y_:=af DJ (.tup [.int (k:Int),.int (j:Int)]);generalize upd (upd H6 m (.dK (bL kvs (Sum.inr z) (.bl true)))) t4 (.tup [.int (k:Int),.int (j:Int)])=H7 at Y_;refine⟨xE,λl4 hl4=>?_⟩;have Y9:=af hl4 (.lst [.ref t4]);have e5':upd H7 l4 (.lst [.ref t4]) l4=some (.lst [.ref t4]):=ae;generalize upd H7 l4 (.lst [.ref t4])=H8 at Y9 e5';have ON:=Y_.trans Y9;refine⟨l,l4,Jl,[.ref t4],rfl,rfl,ON _ _ hlu,e5',fits (by simp;omega),λc0 hc0=>?_⟩;have Y8:=af hc0 (.lst (Jl++[.ref t4]));have e6':upd H8 c0 (.lst (Jl++[.ref t4])) c0=some (.lst (Jl++[.ref t4])):=ae;have nc0:c0≠D:=(az (ON _ _ NW) hc0).symm;generalize upd H8 c0 (.lst (Jl++[.ref t4]))=H9 at Y8 e6';refine⟨oK,λt5 Q7=>?_⟩;have Vk:=af Q7 (.tup [.str z,.ref c0]);have e7':aR K (upd H9 t5 (.tup [.str z,.ref c0])) t5 [.str z,.ref c0]:=aR.of ae;generalize upd H9 t5 (.tup [.str z,.ref c0])=zD at Vk e7';have sA:=(ON.trans Y8).trans Vk;refine⟨D,_,_,rfl,rfl,sA _ _ NW,bF (by rw [av];omega),?_⟩;exact⟨mF++[t5],kb++[(z,c0)],ms++[z],_,_,_,_,rfl,W2.more fD fm hz ∅ nm sA e7' (Vk _ _ e6') (by rw [bp];simp;omega) nc0,by rw [bp];omega,e0,iH _ W8,XM⟩
   exact⟨mF,kb,ms,kvs,_,_,_,rfl,W2,h2,e0,W8,XM⟩
  rintro σ H6 ⟨mF,kb,ms,kvs,y7,y8,y9,rfl,W2,h2,_⟩;exact⟨_,rfl,_,_,rfl,rfl,mF,kb,ms,kvs,_,_,_,_,rfl,W2,h2⟩
 refine⟨rM,λD9 Ly=>q D9 _ (W.sm.free Ly) (W.sm.trans (af Ly _)) ae⟩
end
end gT
namespace L2
open PySem PySem.Spec PyProof.Rows
section
variable {prog:Program}{w:World}{A:Around}{E:Value->Shared->Prop}{s:Shared}
def zc (a b c:Value):argsOk "min" ⟨[a],[("key",b),("default",c)]⟩:=by unfold argsOk;kernel_rfl
def uu {l:Addr}{kf dv:Value}{Q:Value->Shared->Prop}(hh:A.handled=none)(hl:s.heap.IsList l #[])(h:∀h' tk,(∀b o,s.heap.get? b=some o->h'.get? b=some o)->Q dv { s with heap:=h',toks:=tk }) :
  wpAny (model prog w) A (call (.builtin "min") [.ref l] [("key",kf),("default",dv)]) Q E s:=by
 have Hr:(toString "min" ++ toString ".loop":String) = "min.loop" := by decide
 refine kO (vE F.plain_min F.entry_min ?_);have core:wpAny (model prog w) A.in1 (Builtin.«min» ⟨[.ref l],[("key",kf),("default",dv)]⟩) (λfin s'=>match fin with
   | .done f=>(match (Except.ok f:Result) with | .ok (.ret v)=>Q v s' | .ok _=>False | .error e=>E e s')
   | .again c'=>c'.quiet=true/\codeAny (model prog w) A c' (λr s'=>match r with | .ok (.ret v)=>Q v s' | .ok _=>False | .error e=>E e s') s') E s:=by
  show wpAny _ A.in1 (Builtin.Builtins.bindParams "min" ["key","default"] 0 ⟨[],[("key",kf),("default",dv)]⟩ >>= _) _ _ s;refine aq (wpAny_of_eq (show Builtin.Builtins.bindParams "min" ["key","default"] 0 ⟨[],[("key",kf),("default",dv)]⟩=pure [some kf,some dv] from rfl) ?_);refine aq (aH ?_);refine aq (mx hl ?_);refine aq (gI ?_);rw [Hr];obtain⟨ol,h1,h2⟩:=id hl;generalize hG:s.heap.push { cls:=.type "list_iterator",data:=.fields #[.ref l,.int 0 0] }=G;have k1:∀b o,s.heap.get? b=some o->G.get? b=some o:=λb o e=>by rw [<-hG];exact bH _ e
  have hi:G.get? s.heap.objs.size=some { cls:=.type "list_iterator",data:=.fields #[.ref l,.int 0 0] }:=by rw [<-hG];exact cA _ rfl
  refine aH ⟨i9 F.plain_min_loop _,kM F.entry_min_loop ?_⟩;rw [lW F.plain_min_loop _];show wpAny _ A.in1 (seqItems? (.ref G.objs.size) >>= _) _ _ _;refine aq (mr (cA _ rfl) rfl ?_);show wpAny _ A.in1 (tryCatch (pyNext (.ref s.heap.objs.size)) _ >>= _) _ _ _;refine aq (wpAny_tryCatch (vJ (show A.in1.handled=none from hh) ⟨_,bH _ hi,rfl,rfl⟩ ⟨ol,bH _ (k1 _ _ h1),h2⟩ (by simp) λh' eb=>?_));refine aq (il (aH ?_));exact h h' _ λb o e=>eb b o (bE (bu e)) (bH _ (k1 b o e))
 simp only [checkBuiltinCall,F.kind_min];cases WD:Manifest.signature? "min" with
 | none=>exact aH core
 | some sig =>
  have ha':Bind.checkArgs "min" sig ⟨[.ref l],[("key",kf),("default",dv)]⟩=pure ():=by have:=zc (.ref l) kf dv;simpa only [argsOk,WD] using this
  simp only [ha'];exact aH core
end
def PQ (K:a8)(t:TA)(td:TE):TE:=λσ H Q=>t σ H λvs H1=>td σ H1 λdv H2=>∃a,vs=[.ref a]/\aG K H2 a []/\Q dv H2
def JF {X:Cx}{p pos lp Wc DF:Pos}{e e2:Expr}{t:TA}{td:TE}(hc:X.calm=true)(hg:Gl X "min")(hm:X.mg "min"=none)(Rr:Gl X "len")(Rm:X.mg "len"=none)(ha:PA X [e] t)(hd:PE X e2 td)
  (he:backTo pos (starEach [e] X.env)=(false,eval e X.env)::backTo pos (starEach [] X.env):=by rfl)(hp:(backTo pos (starEach [e] X.env)).any (·.1)=false:=by rfl) :
  PE X (.Call (.Name "min" p) [e] [⟨some "key",.Name "len" lp,Wc⟩,⟨some "default",e2,DF⟩] pos) (PQ X.K t td):=by
 intro ag s σ H Q I h;refine nq (iQ I hg hm boot_min ?_);refine callWith_kw (cX (ha pos ag s σ H _ I h) λus s1 bx=>?_) he hp rfl rfl;obtain⟨vs,H1,I1,r1,q1⟩:=bx;refine kws_cons (iQ I1 Rr Rm dJ (kws_cons (cX (hd ag s1 σ H1 _ I1 q1) λu2 s2 bx=>?_)));obtain⟨dv,H2,I2,r2,a,ev,hs,q⟩:=bx;refine kws_nil ?_;subst ev;obtain⟨u,rfl,rx⟩:=vals1 r1;cases (show u=Value.ref a from rx);obtain⟨aN,rv,pl,hz⟩:=I2.list hs;cases rv;exact uu (I2.ok.hd hc) pl.isList λh' tk kk=>⟨dv,H2,I2.kept (t':=tk) kk,r2,q⟩
open PySem
def Ex {K:a8}{H:Hp}{p D:Addr}{ls:List Addr}{σ:St}{x:Str}{Qp:Hp->Prop}(hp:H p=some (.lst (ls.map V.ref)))(hl:∀l∈ls,H l=some (.lst []))(hD:H D=none)(q:∀H2,aB H H2->H2 D=some (.lst [])->Qp H2) :
  ∃W:Nat->Nat->List V->St->Hp->Prop,(∃m,W 0 m [] (dO [x] [] σ) (upd H D (.lst []))) /\
 ∀i m ys σ' H,W i m ys σ' H->((kn K p).stop i H/\Qp H)\/((kn K p).go i H/\∃m',m' < m/\∀x H',(kn K p).mE i H x H'->dM 0 x σ' H' λσ2 H2=>gE 0 σ2 H2 λx H'=>∃k,Iu K x H' k/\(λb H3 =>
  if b=true then gE 0 σ2 H3 λy H4=>H4 D=some (.lst ys)/\ys.length < sizeLine/\W (i+1) m' (ys++[y]) σ2 (upd H4 D (.lst (ys++[y]))) else W (i+1) m' ys σ2 H3) k H'):=by
 refine cI (tif:=λσ H Q=>gE 0 σ H λx H'=>∃k,Iu K x H' k/\Q k H') (xs:=ls.map V.ref) (λi ys σ2 H5=>ys=[]/\(∃y0,σ2=[y0])/\aB H H5/\H5 D=some (.lst [])) ⟨rfl,⟨none,rfl⟩,af hD _,ae⟩ (λi ys σ2 H5 _ h=>aG.of (h.2.2.1 _ _ hp)) (λi x ys σ2 H5 ex h=>?_) (λys σ2 H5 h=>?_)
 .obtain⟨rfl,⟨y0,rfl⟩,s5,e5⟩:=h;rw [bo] at ex;obtain⟨l,el,rfl⟩:=cg.mp ex;refine goN ?_;refine⟨_,rfl,false,.inl ⟨[],aG.of (s5 _ _ (hl l (b8 el))),rfl⟩,?_⟩;refine du ?_;exact⟨rfl,⟨_,rfl⟩,s5,e5⟩
 obtain⟨rfl,_,s5,e5⟩:=h;exact q H5 s5 e5
end L2
namespace gT
open PySem L2 M11
section
def Iz (aa:List au)(rk:Str->Nat):Prop:=∀bz,xu aa bz->zk aa aa.length bz->∀n k j,Pp aa (hd aa) (λz=>decide (z∈bz.map (·.1))) n k j->∀ru z,aa[k]?=some ru->ru.2[j]?=some z->rk z < rk n
def Fq (K:a8):Sp:=λvs H Q _=>∃(R:Addr)(rs:List Addr)(aa:List au)(rk:Str->Nat),vs=[.ref R]/\aG K H R (rs.map V.ref)/\bJ K H rs aa/\aa.length<=1000/\(∀ru∈aa,ru.2.length<=8)/\Iz aa rk /\
 ∀(D:Addr)(H':Hp),H D=none->aB H H'->H' D=some (.lst [])->Q (.ref D) H'
def zV:aI ["rules","steps","loops"] ["rules"] (ay FH):=iT rfl rfl rfl rfl nofun
def JQ (F:iz K "find_loop" "find_loop" FH f fd)(T:Txt mg)(GS:aE P w K mg base 2 "steps_with_like_rows" ["rules"] (BN K))(GW:aE P w K mg base 1 "way_back" ["rules","steps","name"] (K1 K)):bR P w K mg base fY 3 f fd ["rules"] (Fq K):=by
 refine F.ok zV (λvs H Q E h=>?_) (λeK A outer s H vs Q E hr h=>?_)
 .obtain⟨R,rs,aa,rk,rfl,_⟩:=h;rfl
 obtain⟨R,rs,aa,rk,rfl,hR,cT,br,h8,hnl,q⟩:=h;refine⟨_,aj (aC (i:=1) zV.nd rfl (Or.inr rfl) (bc GS hr rfl (ab (pv 0) ah)))
  (aj (jL (iy:=2) ["name"] [(0,"rules"),(1,"steps")] zV.nd rfl rfl rfl (Cb (pv 1)) (a9 rfl rfl) nofun rfl nofun
   (λ_ _ _ _ _=>ao (i:=0) (show (["name","rules","steps"]:List Str).Nodup by decide +kernel) rfl (bB rfl)) (λ_ _ _ _ _=>bQ)
   (λ_ _ _ _ _=>bc (GW.mono (by decide:1<=2)) hr rfl (ab (pv 1) (ab (pv 2) (ab (pv 0) ah)))))
  (ak (aQ (JF rfl rfl T.min rfl T.len (ab (ba ["loop"] [] rfl (aX (pv 2)) (a9 rfl rfl) nofun rfl nofun
   (λ_ _ _ _ _=>ao (i:=0) (show (["loop"]:List Str).Nodup by decide +kernel) rfl (bB rfl)) (λ_ _ _ _ _=>hU (Df K (pv 0) (λ_=>rfl))) (λ_ _ _ _ _=>pv 0)) ah) (bA ah))))),?_⟩
 nofun
 refine⟨_,rfl,R,rs,aa,rfl,hR,cT,br,h8,λd ps st bz H1 fd1 s1 e1 S1 m1 O5 emp Eh hits=>?_⟩;have lps:ps.length<=1000:=by
  have h1:=congrArg List.length m1;have h2:=iE (aa.map (·.1)) [];simp only [iX,av] at h2;rw [av] at h1;have h3:(hd aa).length=(xi [] (aa.map (·.1))).length:=rfl;omega
 have W9:Down aa (ps.map (·.1)) st rk:=λn hn e he=>by
  rw [m1] at hn ⊢;have hit:=(hits n e.1 e.2 hn).mp he;obtain⟨ru,z,er,_,ez,hz,_⟩:=id hit;exact⟨ru,z,er,ez,hz,hnl bz emp Eh n e.1 e.2 hit ru z er ez⟩
 refine⟨_,rfl,d,_,rfl,e1,λo D hD=>?_⟩;have VJ:∀p∈ps,p.2≠d:=λp hp z=>by
  obtain⟨ts,a,_⟩:=S1.lst p hp;rw [z,e1] at a;cases a
 have s2:aB H (upd H1 d (.kx o (.dK (ps.map jy)))):=λb u hb=>by
  rw [ai (λz=>by rw [z,fd1] at hb;cases hb)];exact s1 b u hb
 have S2:E5 K ps st (upd H1 d (.kx o (.dK (ps.map jy)))) d:=⟨.inr ⟨o,ae⟩,S1.n1,S1.n2,λp hp=>by
  obtain⟨ts,a,b⟩:=S1.lst p hp;exact⟨ts,by rw [ai (VJ p hp)];exact a,Paired.eJ b λ_ _ z=>hZ e1 z⟩⟩
 have e2:upd H1 d (.kx o (.dK (ps.map jy))) d=some (.kx o (.dK (ps.map jy))):=ae;generalize upd H1 d (.kx o (.dK (ps.map jy)))=H2 at hD s2 S2 e2 ⊢;refine tP (λi ys σ2 H3=>∃ls:List Addr,ys=ls.map V.ref/\ls.length=i/\(∀l∈ls,H3 l=some (.lst [])/\l≠D)/\(∃y0,σ2=[y0,aM R,aM d])/\aB H2 H3/\H3 D=some (.lst ys))
  ⟨[],rfl,rfl,by simp,⟨none,rfl⟩,af hD _,ae⟩ (λi ys σ2 H3 _ h=>?_) (λi kv ys σ2 H3 ex h=>?_) (λys σ2 H3 h=>?_)
 .obtain⟨_,_,_,_,_,sm,_⟩:=h;exact sm _ _ e2
 .obtain⟨ls,rfl,Z9,hl,⟨y0,rfl⟩,sm,jf⟩:=h;rw [bo] at ex;obtain⟨p,ep,rfl⟩:=cg.mp ex;have hp:=b8 ep;have li:=(bj.mp ep).1;refine goN (yE ?_);have s3:=s2.trans sm;refine⟨_,rfl,_,rfl,_,rfl,R,d,rs,aa,ps,st,p.1,rk,rfl,s3.seq hR,cT.same s3,br,S2.same sm,lps,j_ hp,W9,λD4 H4 f4 s4 e4=>?_⟩;have EY:=s4 _ _ jf;have Zz:D4≠D:=λz=>by rw [z,jf] at f4;cases f4
  refine⟨EY,bF (by rw [av];omega),ls++[D4],by rw [bG];rfl,by rw [bp,Z9];rfl,λl WX=>?_,⟨_,rfl⟩,λb u hb=>?_,ae⟩
  .rcases cq.mp WX with h | h
   .obtain⟨a1,a2⟩:=hl l h;exact⟨by rw [ai a2];exact s4 _ _ a1,a2⟩
   rw [bC.mp h];exact⟨by rw [ai Zz];exact e4,Zz⟩
  rw [ai (λz=>by rw [z,hD] at hb;cases hb)];exact s4 _ _ (sm b u hb)
 obtain⟨ls,rfl,Z9,hl,_,sm,jf⟩:=h;have s3:=s2.trans sm;refine⟨_,rfl,D,rfl,⟨_,aG.of jf⟩,λD5 Lz=>?_⟩;refine Ex jf (λl WX=>(hl l WX).1) Lz λH5 s5 e5=>?_;refine⟨rM,λD6 Xn=>⟨D5,rfl,aG.of (af Xn _ _ _ e5),?_⟩⟩;exact q D6 _ ((s3.trans s5).free Xn) ((s3.trans s5).trans (af Xn _)) ae
end
end gT
namespace L2
open PySem
def Bw {K:a8}{T:Addr}{pos:Pos}{qu:Str}{H H':Hp}{a:Addr}{xs:List V}(s:cY T H H')(t:Tab T pos qu H)(h:aR K H a xs):aR K H' a xs:=by
 obtain⟨ps,b,_⟩:=t;rcases h with (h | ⟨u,h⟩) | h
 .exact .inl (.inl (s _ _ (λz=>by rw [z,b] at h;cases h) h))
 .exact .inl (.inr ⟨u,s _ _ (λz=>by rw [z,b] at h;cases h) h⟩)
 exact .inr h
def B2 {K:a8}{T:Addr}{pos:Pos}{qu:Str}{H H':Hp}{a:Addr}{xs:List V}(s:cY T H H')(t:Tab T pos qu H)(h:aG K H a xs):aG K H' a xs:=by
 obtain⟨ps,b,_⟩:=t;rcases h with (h | ⟨u,h⟩) | h
 .exact .inl (.inl (s _ _ (λz=>by rw [z,b] at h;cases h) h))
 .exact .inl (.inr ⟨u,s _ _ (λz=>by rw [z,b] at h;cases h) h⟩)
 exact .inr h
def Bx {T T':Addr}{pos pos':Pos}{qu IK:Str}{H H':Hp}(s:cY T H H')(t:Tab T pos qu H)(h:Tab T' pos' IK H)(n:T'≠T):Tab T' pos' IK H':=by
 obtain⟨ps,b,_⟩:=t;obtain⟨ER,a,o,c⟩:=h;refine⟨ER,s _ _ n a,o,c.imp id ?_⟩;rintro⟨c',e,g⟩;exact⟨c',e,s _ _ (λz=>by rw [z,b] at g;cases g) g⟩
def tM {K:a8}{H:Hp}{p D:Addr}{zs:List Str}{σ:St}{js:List (Nat×Str)}{cs:List (Option V)}{tif:TT}{te:TE}{Qp:Hp->Prop}(hσ:dO ["name"] js σ=none::cs)(hp:aG K H p (zs.map V.str))(hD:H D=none)
  (ht:∀z∈zs,∀H2 Q,aB H H2->Q false H2->tif (some (.str z)::cs) H2 Q)(q:∀H2,aB H H2->H2 D=some (.lst [])->Qp H2) :
  ∃W:Nat->Nat->List V->St->Hp->Prop,(∃m,W 0 m [] (dO ["name"] js σ) (upd H D (.lst []))) /\
 ∀i m ys σ' H,W i m ys σ' H->((kn K p).stop i H/\Qp H)\/((kn K p).go i H/\∃m',m' < m/\∀x H',(kn K p).mE i H x H'->dM 0 x σ' H' λσ2 H2=>tif σ2 H2 λb H3 =>
  if b=true then te σ2 H3 λy H4=>H4 D=some (.lst ys)/\ys.length < sizeLine/\W (i+1) m' (ys++[y]) σ2 (upd H4 D (.lst (ys++[y]))) else W (i+1) m' ys σ2 H3):=by
 refine cI (xs:=zs.map V.str) (λi ys σ2 H5=>ys=[]/\(∃y0,σ2=y0::cs)/\aB H H5/\H5 D=some (.lst [])) ⟨rfl,⟨none,hσ⟩,af hD _,ae⟩ (λi ys σ2 H5 _ h=>h.2.2.1.seq hp) (λi x ys σ2 H5 ex h=>?_) (λys σ2 H5 h=>?_)
 .obtain⟨rfl,⟨y0,rfl⟩,s5,e5⟩:=h;rw [bo] at ex;obtain⟨z,ez,rfl⟩:=cg.mp ex;refine goN ?_;refine ht z (b8 ez) H5 _ s5 ?_;refine du ?_;exact⟨rfl,⟨_,rfl⟩,s5,e5⟩
 obtain⟨rfl,_,s5,e5⟩:=h;exact q H5 s5 e5
end L2
namespace gT
open PySem L2 M11
section
structure Good (aa:List au)(rk:Str->Nat)(b:Str->Int):Prop where
 least:∀g,eF M11.bl aa (zy aa) g->i6 M11.bl aa g->∀h∈hd aa,∃n,g h=some n/\n<=60
 met:∀lZ ms,aa[0]?=some lZ->lZ.1∈ms->IB aa aa.length ms->∀h∈hd aa,h∈ms
 loop:Iz aa rk
 Uw:zp aa b
 most:∀h∈hd aa,b h<=60
def mh (T1 T2:Addr)(H H':Hp):Prop:=∀b o,b≠T1->b≠T2->H b=some o->H' b=some o
def rT (K:a8)(T1 T2:Addr):Sp:=λvs H Q _=>∃(R S:Addr)(rs ss:List Addr)(aa str:List au)(rk:Str->Nat)(b:Str->Int),vs=[.ref R,.ref S]/\aG K H R (rs.map V.ref)/\bJ K H rs aa/\aa.length<=1000/\(∀ru∈aa,ru.2.length<=8)/\aa≠[] /\
 aG K H S (ss.map V.ref)/\bJ K H ss str/\str.length<=1000/\(∀ru∈str,ru.2.length<=8)/\(str.flatMap (·.2)).Nodup/\Good aa rk b/\Tab T1 sL.2.2.2 zu H/\Tab T2 AG.2.2.2 Lh H/\T1≠T2 /\
 ∀H',mh T1 T2 H H'->Tab T1 sL.2.2.2 zu H'->Tab T2 AG.2.2.2 Lh H'->Q .eV H'
def ib:aI ["rules","strengths","least","endless","met","unmet","steps","greatest","vast"] ["rules","strengths"] (ay wj):=iT rfl rfl rfl rfl nofun
def Dm {T1 T2:Addr}{tm:Tok}(F:iz K "refuse_faults" "refuse_faults" wj f fd)(T:Txt mg)(hM:mg "MOST_RULES"=some (.int 60 tm))(GT:aE P w K mg base 1 "refuse_twice" ["strengths"] (BM K))(GL:aE P w K mg base 3 "least_sizes" ["rules"] (qI K T1))
  (GH:aE P w K mg base 1 "heads_of" ["rules"] (jG K))(GM:aE P w K mg base 1 "names_met" ["rules"] (K3 K))(GF:aE P w K mg base 3 "find_loop" ["rules"] (Fq K))(GG:aE P w K mg base 3 "greatest_empty_sizes" ["rules"] (vZ K T2)) :
  bR P w K mg base fY 4 f fd ["rules","strengths"] (rT K T1 T2):=by
 refine F.ok ib (λvs H Q E h=>?_) (λeK A outer s H vs Q E hr h=>?_)
 .obtain⟨R,S,rs,ss,aa,str,rk,b,rfl,_⟩:=h;rfl
 obtain⟨R,S,rs,ss,aa,str,rk,b,rfl,hR,cT,br,h8,EX,hS,TH,Wz,WI,WG,gd,Ki,T8,nT,q⟩:=h;have hu:=fX hr;refine⟨_,aj (bU (iM (iL (pv 0) (λ_=>rfl))) (ak iN) aS)
  (aj (cC (bc (GT.mono (by decide:1<=3)) hr rfl (ab (pv 1) ah)))
  (aj (aC (i:=2) ib.nd rfl (Or.inr rfl) (bc GL hr rfl (ab (pv 0) ah)))
  (aj (jL (iy:=3) ["name"] [(2,"least")] ib.nd rfl rfl rfl (aX (bc (GH.mono (by decide:1<=3)) hr rfl (ab (pv 0) ah))) (a9 rfl rfl) nofun rfl nofun
   (λ_ _ _ _ _=>ao (i:=0) (show (["name","least"]:List Str).Nodup by decide +kernel) rfl (bB rfl)) (λ_ _ _ _ _=>hU (dH (dX hu (pv 0) (pv 1)))) (λ_ _ _ _ _=>pv 0))
  (aj (bU (iL (pv 3) (λ_=>rfl)) (ak iN) aS)
  (aj (aC (i:=4) ib.nd rfl (Or.inr rfl) (bc (GM.mono (by decide:1<=3)) hr rfl (ab (pv 0) ah)))
  (aj (jL (iy:=5) ["name"] [(4,"met")] ib.nd rfl rfl rfl (aX (bc (GH.mono (by decide:1<=3)) hr rfl (ab (pv 0) ah))) (a9 rfl rfl) nofun rfl nofun
   (λ_ _ _ _ _=>ao (i:=0) (show (["name","met"]:List Str).Nodup by decide +kernel) rfl (bB rfl)) (λ_ _ _ _ _=>hU (dH (dX hu (pv 0) (pv 1)))) (λ_ _ _ _ _=>pv 0))
  (aj (bU (iL (pv 5) (λ_=>rfl)) (ak iN) aS)
  (aj (aC (i:=6) ib.nd rfl (bB rfl) (bc GF hr rfl (ab (pv 0) ah)))
  (aj (bU (iL (pv 6) (λ_=>rfl)) (ak iN) aS)
  (aj (aC (i:=7) ib.nd rfl (Or.inr rfl) (bc GG hr rfl (ab (pv 0) ah)))
  (aj (jL (iy:=8) ["name"] [(2,"least"),(7,"greatest")] ib.nd rfl rfl rfl (aX (bc (GH.mono (by decide:1<=3)) hr rfl (ab (pv 0) ah))) (a9 rfl rfl) nofun rfl nofun
   (λ_ _ _ _ _=>ao (i:=0) (show (["name","least","greatest"]:List Str).Nodup by decide +kernel) rfl (bB rfl)) (λ_ _ _ _ _=>hU (bw yh (aF (EA rfl) rfl T.max PyProof.Rows.boot_max (ab (eI hu (pv 1) (pv 0) (λ_ _=>rfl)) (ab (ye hu (pv 2) (pv 0) ar ⟨rfl,rfl,rfl,rfl⟩) ah))) (JH (v:=.int 60) rfl hM ⟨tm,rfl⟩) (bW _))) (λ_ _ _ _ _=>pv 0))
  (ak (bU (iL (pv 8) (λ_=>rfl)) (ak iN) aS))))))))))))),?_⟩
 nofun
 have ll:=a_ cT;obtain⟨lZ,OV⟩:∃lZ,aa[0]?=some lZ:=by
  cases aa with
  | nil=>exact absurd rfl EX
  | cons a r=>exact⟨a,rfl⟩
 have eR:(rs.map V.ref).isEmpty=false:=by
  have l0:=(bj.mp OV).1;cases rs with
  | nil=>simp at ll;omega
  | cons a r=>rfl
 refine⟨_,rfl,true,.inl ⟨_,hR,by rw [eR];rfl⟩,?_⟩;refine du ?_;refine⟨_,rfl,S,ss,str,rfl,hS,TH,Wz,WI,WG,λH1 s1=>?_⟩;have SY:=Ki.same s1;have t21:=T8.same s1;refine⟨_,rfl,R,rs,aa,rfl,s1.seq hR,cT.same s1,br,h8,SY,λdl kl ksl gl H2 fl s2 t12 el kkl vl stl sel _=>?_⟩;have IW:=B2 s2 SY (s1.seq hR);have DL:=(cT.same s1).keep λ_ _ z=>Bw s2 SY z;have t22:=Bx s2 SY t21 nT.symm;have hl:=gd.least gl stl sel;have S02:mh T1 T2 H H2:=λb o n1 _ hb=>s2 b o n1 (s1 b o hb);refine⟨_,rfl,R,rs,aa,rfl,IW,DL,br,λD3 H3 f3 s3 e3=>⟨D3,rfl,⟨_,aG.of e3⟩,λD4 hD4=>tM rfl (aG.of e3) hD4 (λz hz H' Q' s' hQ=>?_) λH4 s4 e4=>?_⟩⟩
 .obtain⟨n,en,_⟩:=hl z hz;have hg:bX H' dl (.str z) (some (.int n)):=by
   have:=bX.k (k:=Sum.inr z) (s' _ _ (s3 _ _ el));rw [vl,en] at this;exact this
  exact⟨_,rfl,_,rfl,dl,_,rfl,hg,_,rfl,hQ⟩
 refine⟨_,rfl,false,.inl ⟨[],aG.of e4,rfl⟩,?_⟩;refine du ?_;have CW:=s3.trans s4;refine⟨_,rfl,R,rs,aa,lZ,rfl,CW.seq IW,DL.same CW,OV,br,h8,λdm km ms H5 f5 s5 em kkm CT _ mc5=>?_⟩;have Vo:=CW.trans s5;refine⟨_,rfl,R,rs,aa,rfl,Vo.seq IW,DL.same Vo,br,λD6 H6 f6 s6 e6=>⟨D6,rfl,⟨_,aG.of e6⟩,λD7 Xm=>tM rfl (aG.of e6) Xm (λz hz H' Q' s' hQ=>?_) λH7 s7 e7=>?_⟩⟩
 .have hm:=gd.met lZ ms OV CT mc5 z hz;have hv:(bf km (Sum.inr z)).isSome=true:=by rw [dQ,kkm];exact cN.mpr hm
  refine⟨_,rfl,_,rfl,dm,_,rfl,bX.k (k:=Sum.inr z) (s' _ _ (s6 _ _ em)),_,rfl,?_⟩;rw [hv];exact hQ
 refine⟨_,rfl,false,.inl ⟨[],aG.of e7,rfl⟩,?_⟩;refine du ?_;have Qd:=(Vo.trans s6).trans s7;refine⟨_,rfl,R,rs,aa,rk,rfl,Qd.seq IW,DL.same Qd,br,h8,gd.loop,λD8 H8 f8 s8 e8=>?_⟩;refine⟨_,rfl,false,.inl ⟨[],aG.of e8,rfl⟩,?_⟩;refine du ?_;have K6:=Qd.trans s8;have t18:=t12.same K6;have P5:=t22.same K6;refine⟨_,rfl,R,rs,aa,b,rfl,K6.seq IW,DL.same K6,br,h8,gd.Uw,P5,λdg kg ksg gg H9 f9 s9 t29 eg kkg vg jg _ _=>?_⟩;have hR9:=B2 s9 P5 (K6.seq IW);have WJ:=(DL.same K6).keep λ_ _ z=>Bw s9 P5 z;have Vb:=Bx s9 P5 t18 nT;have el8:=K6 _ _ el;have el9:=s9 _ _ (λz=>by obtain⟨ps,a,_⟩:=P5;rw [<-z,el8] at a;cases a) el8;refine⟨_,rfl,R,rs,aa,rfl,hR9,WJ,br,λYM zD f10 uh E3=>⟨YM,rfl,⟨_,aG.of E3⟩,λD11 Xo=>tM rfl (aG.of E3) Xo (λz hz H' Q' s' hQ=>?_) λzg FP Jb=>?_⟩⟩
 .obtain⟨n,en,aak⟩:=hl z hz;have Kh:bX H' dl (.str z) (some (.int n)):=by
   have:=bX.k (k:=Sum.inr z) (s' _ _ (uh _ _ el9));rw [vl,en] at this;exact this
  have eg':=s' _ _ (uh _ _ eg);obtain⟨v,hv1,Z1⟩:∃v:Int,((gg z).map V.int).getD (.int 0)=.int v/\v<=60:=by
   cases e:gg z with
   | none=>exact⟨0,rfl,nofun⟩
   | some v=>exact⟨v,rfl,Int.le_trans (jg z v e).2.1 (gd.most z hz)⟩
  have Rr:bX H' dg (.str z) ((gg z).map V.int):=by
   have:=bX.k (k:=Sum.inr z) eg';rw [vg] at this;exact this
  refine⟨_,rfl,_,rfl,dl,_,rfl,Kh,_,rfl,dg,rfl,.inl ⟨_,.inl eg'⟩,_,rfl,_,Rr,?_⟩;rw [hv1];refine⟨n,v,rfl,_,_,rfl,rfl,_,rfl,?_⟩;rw [cV (by split <;> omega)]
  exact hQ
 refine⟨_,rfl,false,.inl ⟨[],aG.of Jb,rfl⟩,?_⟩;refine du ?_;have MK:=uh.trans FP;exact q zg (λc o n1 n2 hc=>MK c o (s9 c o n2 (K6 c o (S02 c o n1 n2 hc)))) (Vb.same MK) (t29.same MK)
end
end gT
namespace M11
open PySem L2
abbrev Be:=Str×Str×Nat×Nat
def gF (cS:List Be):List (Str×Str):=cS.map λb=>(b.1,b.2.1)
def oy (cS:List Be)(n:Str):List Str:=(cS.filter λb=>decide (b.1=n)).map (·.2.1)
def qx (names:List Str)(cS:List Be)(z:Str):List Str:=if z∈names then oy cS z else [z]
inductive xC (aa:List au) (names:List Str)(b:Str->Bool):List Be->Prop
 | nil:xC aa names b []
 | snoc {cS:List Be}{k j:Nat}{ru:au}{z w:Str}:xC aa names b cS->aa[k]?=some ru->ru.2[j]?=some z->j < DZ b ru.2->w∈qx names cS z->(ru.1,w)∉gF cS->xC aa names b (cS++[(ru.1,w,k,j)])
def A0 {cS:List Be}{n w:Str}:w∈oy cS n↔(n,w)∈gF cS:=by
 unfold oy gF;rw [cy,cy];constructor
 .rintro⟨b,hb,rfl⟩;obtain⟨h1,h2⟩:=lU.mp hb;exact⟨b,h1,by rw [dA h2]⟩
 rintro⟨b,hb,e⟩;cases e;exact⟨b,lU.mpr ⟨hb,bN rfl⟩,rfl⟩
def Cp (cS:List Be)(b:Be)(n:Str):oy (cS++[b]) n=oy cS n++(if b.1=n then [b.2.1] else []):=by
 unfold oy;rw [o9,bG];by_cases c:b.1=n
 .rw [ax c];simp [c]
 rw [aw c];simp [c]
end M11
namespace gT
open PySem L2 M11
def KA:Stmt->List Stmt
 | .ClassDef _ _ _ b _ _ _ _ _ _ _=>b
 | _=>[]
abbrev QG (st:Stmt) (i:Nat):Stmt:=(KA st).getD i (.Pass ⟨0,0,0,0⟩)
abbrev Ab:Stmt:=QG Aa 0
abbrev FN:Stmt:=QG Aa 1
abbrev z5:Stmt:=QG Aa 2
abbrev wq:Stmt:=QG FI 0
section
structure BC (K:a8)(C:Addr):Prop where
 cls:EK K C
 a1:d5 K C "empties"
 a2:d5 K C "empty"
 a3:d5 K C "begins"
 a4:d5 K C "firsts"
structure ux (K:a8)(C:Addr)(H0 H:Hp)(a e d bg:Addr)(kE:List (aL×V))(bz:List (Str×Nat))(ps:List (Str×Addr))(cS:List Be):Prop where
 sm:aB H0 H
 ia:∃dx fs,H a=some (.ins C dx fs)/\fs.lookup ("empty":Str)=some (.ref e)/\fs.lookup ("begins":Str)=some (.ref bg)/\fs.lookup ("firsts":Str)=some (.ref d)/\fs.lookup ("find_begins":Str)=none/\fs.lookup ("words_of_part":Str)=none
 he:H e=some (.dK kE)
 hd:H d=some (.dK (ps.map jy))
 n1:(ps.map (·.1)).Nodup
 n2:(ps.map (·.2)).Nodup
 dk:∀p∈ps,(∃kvs,H p.2=some (.dK kvs)/\kvs.map (·.1)=(oy cS p.1).map Sum.inr)/\H0 p.2=none/\p.2≠e/\p.2≠d
 lb:∃ts,H bg=some (.lst (ts.map V.ref))/\Paired (λt (b:Be)=>aR K H t [.str b.1,.str b.2.1,.int (b.2.2.1:Int),.int (b.2.2.2:Int)]) ts cS
 fb:H0 bg=none
 em:∃e1 ts,(∃dx fs,H a=some (.ins C dx fs)/\fs.lookup ("empties":Str)=some (.ref e1))/\H e1=some (.lst (ts.map V.ref))/\pV K H ts bz/\e1≠bg
def ux.same {C:Addr}{H0 H H':Hp}{a e d bg:Addr}{kE:List (aL×V)}{bz:List (Str×Nat)}{ps:List (Str×Addr)}{cS:List Be}(h:ux K C H0 H a e d bg kE bz ps cS)(s:aB H H'):ux K C H0 H' a e d bg kE bz ps cS:=by
 refine⟨h.sm.trans s,?_,s _ _ h.he,s _ _ h.hd,h.n1,h.n2,λp hp=>?_,?_,h.fb,?_⟩
 .obtain⟨dx,fs,q,r⟩:=h.ia;exact⟨dx,fs,s _ _ q,r⟩
 .obtain⟨⟨kvs,q,r⟩,t⟩:=h.dk p hp;exact⟨⟨kvs,s _ _ q,r⟩,t⟩
 .obtain⟨ts,q,r⟩:=h.lb;exact⟨ts,s _ _ q,Paired.eJ r λ_ _ z=>s.tup z⟩
 obtain⟨e1,ts,⟨dx,fs,q1,q2⟩,q3,q4,q5⟩:=h.em;exact⟨e1,ts,⟨dx,fs,s _ _ q1,q2⟩,s _ _ q3,q4.keep λ_ _ z=>s.tup z,q5⟩
def BO (K:a8)(C:Addr):Sp:=λvs H Q _=>∃(H0:Hp)(a e d bg:Addr)(kE:List (aL×V))(bz:List (Str×Nat))(ps:List (Str×Addr))(cS:List Be)(z:Str),vs=[.ref a,.str z]/\ux K C H0 H a e d bg kE bz ps cS /\
 ∀(D:Addr)(H':Hp),H D=none->aB H H'->H' D=some (.lst ((qx (ps.map (·.1)) cS z).map V.str))->Q (.ref D) H'
def Js:aI ["self","part"] ["self","part"] (ay z5):=iT rfl rfl rfl rfl nofun
def Gu {C:Addr}(F:iz K "words_of_part" "BeginTable.words_of_part" z5 f fd)(T:Txt mg)(B:BC K C):bR P w K mg base fY 1 f fd ["self","part"] (BO K C):=by
 refine F.ok Js (λvs H Q E h=>?_) (λeK A outer s H vs Q E hr h=>?_)
 .obtain⟨H0,a,e,d,bg,kE,bz,ps,cS,z,rfl,_⟩:=h;rfl
 obtain⟨H0,a,e,d,bg,kE,bz,ps,cS,z,rfl,S,q⟩:=h;have hu:=fX hr;obtain⟨dx,fs,ea,f1,f2,f3,f4,f5⟩:=S.ia;refine⟨_,ak (aQ (sE (dH (jc hu (pv 1) (e_ (pv 0) rfl))) (aV (mW rfl) rfl T.lst dZ (ab (eI hu (e_ (pv 0) rfl) (pv 1) (λ_ _=>rfl)) ah)) (bA (ab (pv 1) ah)))),?_⟩;dsimp only [Bd];have mem:(bf (ps.map jy) (Sum.inr z)).isSome=true↔z∈ps.map (·.1):=by rw [dQ,n8];exact cN
 refine⟨_,rfl,_,rfl,a,C,dx,fs,_,rfl,ea,B.cls,B.a4,f3,d,_,rfl,bX.k (k:=Sum.inr z) S.hd,_,rfl,?_⟩;refine cE (λc=>?_) (λc=>?_)
 .have hz:=mem.mp c;obtain⟨p,hp,ep⟩:=cy.mp hz;obtain⟨⟨kvs,hk,kk⟩,_⟩:=S.dk p hp;have vn:=g6 ps S.n1 p hp;rw [ep] at vn;have hg:bX H d (.str z) (some (.ref p.2)):=by
   have:=bX.k (k:=Sum.inr z) S.hd;rw [vn] at this;exact this
  refine⟨_,rfl,a,C,dx,fs,_,rfl,ea,B.cls,B.a4,f3,_,rfl,d,_,rfl,hg,p.2,kvs,rfl,hk,λD hD=>?_⟩;refine q D _ hD (af hD _) ?_;rw [ae,keys_str kk,ep];unfold qx;rw [ax hz]
 refine⟨_,rfl,xE,λD hD=>?_⟩;refine q D _ hD (af hD _) ?_;rw [ae];unfold qx;rw [aw (λh=>c (mem.mpr h))];rfl
def ux.more {C:Addr}{H0 H H2:Hp}{a e d bg t:Addr}{kE kvs:List (aL×V)}{bz:List (Str×Nat)}{ps:List (Str×Addr)}{cS:List Be}{p:Str×Addr}{wd:Str}{k j:Nat}{ts:List Addr}(h:ux K C H0 H a e d bg kE bz ps cS)(hp:p∈ps)(hk:H p.2=some (.dK kvs))(kk:kvs.map (·.1)=(oy cS p.1).map Sum.inr)
  (hn:(p.1,wd)∉gF cS)(hb:H bg=some (.lst (ts.map V.ref)))(O0:Paired (λt (b:Be)=>aR K H t [.str b.1,.str b.2.1,.int (b.2.2.1:Int),.int (b.2.2.2:Int)]) ts cS)
  (s:aB (upd H p.2 (.dK (bL kvs (Sum.inr wd) (.bl true)))) H2)(ht:aR K H2 t [.str p.1,.str wd,.int (k:Int),.int (j:Int)]) :
  ux K C H0 (upd H2 bg (.lst (ts.map V.ref++[.ref t]))) a e d bg kE bz ps (cS++[(p.1,wd,k,j)]):=by
 have To:bg≠p.2:=λz=>by rw [z,hk] at hb;cases hb
 have NT:H2 bg=some (.lst (ts.map V.ref)):=s _ _ (by rw [ai To];exact hb);obtain⟨_,fp,Zp,Zq⟩:=h.dk p hp;have up:∀c o,c≠bg->c≠p.2->H c=some o->upd H2 bg (.lst (ts.map V.ref++[.ref t])) c=some o:=λc o n1 n2 q=>by
  rw [ai n1];exact s _ _ (by rw [ai n2];exact q)
 refine⟨λc o hc=>up c o (λz=>by rw [z,h.fb] at hc;cases hc) (λz=>by rw [z,fp] at hc;cases hc) (h.sm c o hc),?_,up _ _ (λz=>by have:=h.he;rw [z,hb] at this;cases this) Zp.symm h.he,up _ _ (λz=>by have:=h.hd;rw [z,hb] at this;cases this) Zq.symm h.hd,h.n1,h.n2,λp' pL=>?_,⟨ts++[t],by rw [ae,bG];rfl,?_⟩,h.fb,?_⟩
 .obtain⟨dx,fs,q,r⟩:=h.ia;exact⟨dx,fs,up _ _ (λz=>by rw [z,hb] at q;cases q) (λz=>by rw [z,hk] at q;cases q) q,r⟩
 .obtain⟨⟨mP,q,r⟩,t'⟩:=h.dk p' pL;refine⟨?_,t'⟩;by_cases z:p'=p
  .rw [z];refine⟨bL kvs (Sum.inr wd) (.bl true),by rw [ai To.symm];exact s _ _ ae,?_⟩;rw [iB (by rw [kk];exact λq=>hn (A0.mp (cN.mp q))),kk,Cp,ax rfl,bG];rfl
  have n1:p'.1≠p.1:=λq'=>z (by
   have w1:=g6 ps h.n1 p' pL;have w2:=g6 ps h.n1 p hp;rw [q',w2] at w1;injection w1 with w3;injection w3 with w4;exact Prod.ext q' w4.symm)
  have n2:p'.2≠p.2:=λq'=>by
   obtain⟨i,hi,ei⟩:=qU.mp pL;obtain⟨j',hj,ej⟩:=qU.mp hp;have Kg:i=j':=by
    refine(vw (xs:=ps.map (·.2)) (h₀:=by simpa using hi) (h₁:=by simpa using hj) h.n2).mp ?_;rw [oZ,oZ,ei,ej];exact q'
   subst Kg;exact z (ei.symm.trans ej)
  refine⟨mP,up _ _ (λz=>by rw [z,hb] at q;cases q) n2 q,?_⟩;rw [r,Cp,aw (λq'=>n1 q'.symm),iu]
 .exact gX (Paired.eJ O0 λ_ _ z=>aW NT (s.tup (hZ hk z))) (aW NT ht)
 obtain⟨e1,te,⟨dx,fs,q1,q2⟩,q3,q4,q5⟩:=h.em;exact⟨e1,te,⟨dx,fs,up _ _ (λz=>by rw [z,hb] at q1;cases q1) (λz=>by rw [z,hk] at q1;cases q1) q1,q2⟩,up _ _ q5 (λz=>by rw [z,hk] at q3;cases q3) q3,q4.keep λ_ _ z=>aW NT (s.tup (hZ hk z)),q5⟩
def N1 (l m:List Be)(n:Str):oy (l++m) n=oy l n++oy m n:=by
 unfold oy;rw [o9,bG]
def Jm {names:List Str}(l m:List Be){z x:Str}(h:x∈qx names l z):x∈qx names (l++m) z:=by
 unfold qx at h ⊢
 split
 .rename_i c
  rw [ax c] at h;rw [N1];exact iH _ h
 rename_i c
 rw [aw c] at h;exact h
def NZ (cS:List Be)(n:Str):(oy cS n).length<=cS.length:=by
 unfold oy;rw [av];exact rH _ _
def Oy {n i:Nat}(h:i < n):(cnt n)[i]?=some (.int (i:Int)):=by
 unfold cnt;rw [bo,List.getElem?_range h];rfl
def Cz (n:Nat):(cnt n).length=n:=by unfold cnt;rw [av,mz]
def Fu (K:a8)(C:Addr):Sp:=λvs H Q _=>∃(H0:Hp)(a e d bg r:Addr)(kE:List (aL×V))(bz:List (Str×Nat))(ps:List (Str×Addr))(cS:List Be) (k:Nat)(ru:au)(aa:List au),vs=[.ref a,.int (k:Int),.ref r]/\ux K C H0 H a e d bg kE bz ps cS/\CJ K H0 r ru/\aa[k]?=some ru/\ru.2.length<=8 /\
 ru.1∈ps.map (·.1)/\(∀xm:List Be,xC aa (ps.map (·.1)) (λz=>(bf kE (Sum.inr z)).isSome) xm->xm.length<=900000)/\xC aa (ps.map (·.1)) (λz=>(bf kE (Sum.inr z)).isSome) cS /\
 ∀(xm:List Be)(H':Hp),ux K C H0 H' a e d bg kE bz ps xm->xC aa (ps.map (·.1)) (λz=>(bf kE (Sum.inr z)).isSome) xm->cS.length<=xm.length->(xm.length=cS.length->xm=cS/\∀j z,j < DZ (λz=>(bf kE (Sum.inr z)).isSome) ru.2->ru.2[j]?=some z->∀wd∈qx (ps.map (·.1)) cS z,(ru.1,wd)∈gF cS)->Q .eV H'
def wb:aI ["self","number","rule","own","place","word"] ["self","number","rule"] (ay FN):=iT rfl rfl rfl rfl nofun
def JT {C fW:Addr}{fdW:FuncData}(F:iz K "find_begins" "BeginTable.find_begins" FN f fd)(T:Txt mg)(B:BC K C)(GP:aE P w K mg base 1 "first_places" ["parts","empty"] (xR K))(FW:bR P w K mg base fY 1 fW fdW ["self","part"] (BO K C))(MW:Meth K C "words_of_part" fW)(BW:Binds K fdW ["self","part"] []) :
  bR P w K mg base fY 2 f fd ["self","number","rule"] (Fu K C):=by
 refine F.ok wb (λvs H Q E h=>?_) (λeK A outer s H vs Q E hr h=>?_)
 .obtain⟨H0,a,e,d,bg,r,kE,bz,ps,cS,k,ru,aa,rfl,_⟩:=h;rfl
 obtain⟨H0,a,e,d,bg,r,kE,bz,ps,cS,k,ru,aa,rfl,S,⟨p,v1,v2⟩,er,h8,hh,hbd,Xc,q⟩:=h;have hu:=fX hr;refine⟨_,aj (aC (i:=3) wb.nd rfl (bB rfl) (eI hu (e_ (pv 0) rfl) (aP bq (pv 2) ar (λ_ _=>rfl)) (λ_ _=>rfl)))
  (ak (bK b9 rfl (aX (bc GP hr rfl (ab (aP bq (pv 2) ar (λ_ _=>rfl)) (ab (e_ (pv 0) rfl) ah)))) (ao (i:=4) wb.nd rfl (bB rfl))
   (ak (bK b9 rfl (aX (Cc (pv 0) B.cls MW FW hr BW .nil uL (ab (aP bq (aP bq (pv 2) ar (λ_ _=>rfl)) (pv 4) (λ_ _=>rfl)) ah))) (ao (i:=5) wb.nd rfl (bB rfl))
    (ak (bU (dH (dX hu (pv 5) (pv 3)))
     (aj (iC hu (pv 3) (pv 5) dW rfl)
     (ak (cC (gR f_ gK gL bM (e_ (pv 0) rfl) (ab (bS (ab (aP bq (pv 2) ar (λ_ _=>rfl)) (ab (pv 5) (ab (pv 1) (ab (pv 4) ah))))) ah))))) aS)))))),?_⟩
 nofun
 obtain⟨pn,yA,zC⟩:=cy.mp hh;have vn:=g6 ps S.n1 pn yA;rw [zC] at vn;obtain⟨dx,fs,ea,f1,f2,f3,f4,f5⟩:=S.ia;have hg:bX H d (.str ru.1) (some (.ref pn.2)):=by
  have:=bX.k (k:=Sum.inr ru.1) S.hd;rw [vn] at this;exact this
 refine⟨_,rfl,a,C,dx,fs,_,rfl,ea,B.cls,B.a4,f3,_,rfl,r,_,_,_,rfl,rfl,S.sm.tup v1,rfl,d,_,rfl,hg,?_⟩;refine⟨_,rfl,r,_,_,_,rfl,rfl,S.sm.tup v1,rfl,_,rfl,a,C,dx,fs,_,rfl,ea,B.cls,B.a2,f1,p,e,ru.2,kE,rfl,S.sm.tup v2,∅,S.he,λD5 H5 f6 s5 e5=>⟨D5,rfl,⟨_,aG.of e5⟩,?_⟩⟩;obtain⟨ts0,hb0,_⟩:=S.lb;have nDb:D5≠bg:=λz=>by rw [z,hb0] at f6;cases f6
 have fle:=HM (λz=>(bf kE (Sum.inr z)).isSome) ru.2;generalize hb:(λz=>(bf kE (Sum.inr z)).isSome)=b at *;generalize hn:DZ b ru.2=n at *
 let qF:pU:=λi σ H6=>∃(d8:List Be)(y4 y5:Option V),σ=[aM a,some (.int (k:Int)),aM r,some (.ref pn.2),y4,y5]/\ux K C H0 H6 a e d bg kE bz ps d8/\H6 D5=some (.lst (cnt n))/\xC aa (ps.map (·.1)) b d8/\cS.length<=d8.length /\
  (d8.length=cS.length->d8=cS/\∀j z,j < i->ru.2[j]?=some z->∀wd∈qx (ps.map (·.1)) cS z,(ru.1,wd)∈gF cS)
 refine cR (xs:=cnt n) qF ⟨cS,none,none,rfl,S.same s5,e5,Xc,aD _,λ_=>⟨rfl,λj z hj=>by omega⟩⟩ ?_ ?_ ?_
 .rintro i σ H6 _ ⟨d8,y4,y5,rfl,S2,e6,_⟩;exact aG.of e6
 .intro i x σ H6 ex lD
  ac_nf0
  obtain⟨d8,y4,y5,rfl,S2,e6,Yi,l2,c2⟩:=lD;have li:i < n:=by have:=(bj.mp ex).1;rw [Cz] at this;exact this
  rw [Oy li] at ex;cases ex;have lz:i < ru.2.length:=by omega
  obtain⟨z,ez⟩:∃z,ru.2[i]?=some z:=⟨ru.2[i],b_ lz⟩;have Yr:lS (ru.2.map V.str) (i:Int)=some (.str z):=cf (by rw [bo,ez];rfl);obtain⟨Ur,uq,Sa,g1,g2,g3,g4,g5⟩:=S2.ia;refine goN ?_
  ac_nf
  refine⟨_,rfl,a,Ur,uq,rfl,Sa,g5,_,rfl,r,_,_,_,rfl,rfl,S2.sm.tup v1,rfl,_,rfl,p,_,_,_,rfl,rfl,S2.sm.tup v2,Yr,H0,a,e,d,bg,kE,bz,ps,d8,z,rfl,S2,λD6 H7 f7 s7 e7=>⟨D6,rfl,⟨_,aG.of e7⟩,?_⟩⟩;obtain⟨xw,NT,_⟩:=S2.lb;have nD6:D6≠bg:=λz=>by rw [z,NT] at f7;cases f7
  generalize ZX:qx (ps.map (·.1)) d8 z=ws at *
  let Bq:pU:=λm σ H8=>∃(l:List Be)(y5:Option V),σ=[aM a,some (.int (k:Int)),aM r,some (.ref pn.2),some (.int (i:Int)),y5]/\ux K C H0 H8 a e d bg kE bz ps (d8++l)/\H8 D5=some (.lst (cnt n))/\H8 D6=some (.lst (ws.map V.str))/\xC aa (ps.map (·.1)) b (d8++l) /\
   (l=[]->∀wd∈ws.take m,(ru.1,wd)∈gF d8)
  refine cR (xs:=ws.map V.str) Bq ⟨[],_,rfl,by rw [iu];exact S2.same s7,s7 _ _ e6,e7,by rw [iu];exact Yi,λ_ wd h=>by simp at h⟩ ?_ ?_ ?_
  .rintro m σ H8 _ ⟨l,y5,rfl,S3,e8,e9,_⟩;exact aG.of e9
  .intro m x σ H8 ex lD
   ac_nf0
   obtain⟨l,y5,rfl,S3,e8,e9,So,c3⟩:=lD;rw [bo] at ex;obtain⟨wd,ew,rfl⟩:=cg.mp ex;obtain⟨⟨kvs,hk,kk⟩,fp,Zp,Zq⟩:=S3.dk pn yA;obtain⟨SV,T7,RH⟩:=S3.lb;have lim:=hbd _ So;have ltk:kvs.length<=900000:=by
    have h1:=congrArg List.length kk;rw [av,av] at h1;have:=NZ (d8++l) pn.1;omega
   have ltt:=a_ RH;have mem:(bf kvs (Sum.inr wd)).isSome=true↔(ru.1,wd)∈gF (d8++l):=by rw [dQ,kk,cN,A0,zC]
   refine goN ?_
   ac_nf
   refine⟨_,rfl,_,rfl,pn.2,_,rfl,bX.k (k:=Sum.inr wd) hk,_,rfl,?_⟩;refine cE (λc=>?_) (λc=>?_)
   .have nm:(ru.1,wd)∉gF (d8++l):=λh=>by rw [mem.mpr h] at c;exact absurd c nofun
    refine⟨_,rfl,_,rfl,_,_,rfl,pX.k (k:=Sum.inr wd) hk (bF ∅),?_⟩;obtain⟨dx3,IY,XQ,k1,k2,k3,k4,k5⟩:=S3.ia;have nap:a≠pn.2:=λz=>by rw [z,hk] at XQ;cases XQ
    have To:bg≠pn.2:=λz=>by rw [z,hk] at T7;cases T7
    have Oi:upd H8 pn.2 (.dK (bL kvs (Sum.inr wd) (.bl true))) a=some (.ins C dx3 IY):=by rw [ai nap];exact XQ
    have hb4:upd H8 pn.2 (.dK (bL kvs (Sum.inr wd) (.bl true))) bg=some (.lst (SV.map V.ref)):=by rw [ai To];exact T7
    refine⟨_,rfl,a,C,dx3,IY,_,rfl,Oi,B.cls,B.a3,k2,.inl ⟨rfl,_,aG.of hb4⟩,_,rfl,r,_,_,_,rfl,rfl,hZ hk (S3.sm.tup v1),rfl,_,rfl,_,rfl,_,rfl,zl4,λt4 DJ=>?_⟩;have s4:=af DJ (.tup [.str ru.1,.str wd,.int (k:Int),.int (i:Int)]);have e4:aR K (upd (upd H8 pn.2 (.dK (bL kvs (Sum.inr wd) (.bl true)))) t4 (.tup [.str ru.1,.str wd,.int (k:Int),.int (i:Int)])) t4 [.str ru.1,.str wd,.int (k:Int),.int (i:Int)]:=aR.of ae;generalize upd (upd H8 pn.2 (.dK (bL kvs (Sum.inr wd) (.bl true)))) t4 (.tup [.str ru.1,.str wd,.int (k:Int),.int (i:Int)])=H9 at s4 e4;refine⟨bg,_,_,rfl,rfl,s4 _ _ hb4,bF (by rw [av];omega),?_⟩;have nm':(pn.1,wd)∉gF (d8++l):=by rw [zC];exact nm
    have S4:=S3.more (k:=k) (j:=i) yA hk kk nm' T7 RH s4 (by rw [zC];exact e4);have Lm:∀D ys,H8 D=some (.lst ys)->D≠bg->upd H9 bg (.lst (SV.map V.ref++[.ref t4])) D=some (.lst ys):=λD ys hD nb=>by
     rw [ai nb];exact s4 _ _ (by rw [ai (λz=>by rw [z,hk] at hD;cases hD)];exact hD)
    rw [lV,zC] at S4;refine⟨l++[(ru.1,wd,k,i)],_,rfl,S4,Lm _ _ e8 nDb,Lm _ _ e9 nD6,?_,λh=>by simp at h⟩;rw [<-lV];refine .snoc So er ez (by rw [hn];exact li) (Jm d8 l (by rw [ZX];exact b8 ew)) nm
   refine⟨l,_,rfl,S3,e8,e9,So,λhl x hx=>?_⟩;rw [cQ,ew] at hx;rcases cq.mp hx with h | h
   .exact c3 hl x h
   rw [Option.toList_some,bC] at h;subst h;have hm:(ru.1,x)∈gF (d8++l):=mem.mp (by
    cases hq:(bf kvs (Sum.inr x)).isSome with
    | true=>rfl
    | false=>exact absurd (by rw [hq];rfl) c)
   rw [hl,iu] at hm;exact hm
  rintro σ H8 ⟨l,y5,rfl,S3,e8,e9,So,c3⟩;rw [av,cP] at c3;refine⟨d8++l,_,_,rfl,S3,e8,So,by rw [bp];omega,λRo=>?_⟩;rw [bp] at Ro;have TU:l=[]:=rK.mp ∅;obtain⟨NS,m_⟩:=c2 ∅;rw [TU,iu];refine⟨NS,λj z' hj XA wd ZZ=>?_⟩;by_cases cj:j < i
  .exact m_ j z' cj XA wd ZZ
  have:j=i:=by omega
  subst this;rw [ez] at XA;cases XA;have:=c3 TU wd (by rw [<-ZX,NS];exact ZZ);rw [NS] at this;exact this
 rintro σ H6 ⟨d8,y4,y5,rfl,S2,e6,Yi,l2,c2⟩;rw [Cz] at c2;exact q d8 H6 S2 Yi l2 c2
end
end gT
namespace L2
open PySem M11
def yS {K:a8}{H:Hp}{p D:Addr}{zs:List Str}{σ:St}{x:Str}{Qp:Hp->Prop}(hp:aG K H p (zs.map V.str))(hz:zs.length<=10000)(hD:H D=none)
  (q:∀ts (ps:List (Str×Addr)) H2,aB H H2->H2 D=some (.lst (ts.map V.ref))->ps.map (·.1)=zs->Paired (λt (p:Str×Addr)=>aR K H2 t [.str p.1,.ref p.2]) ts ps->(∀p∈ps,H2 p.2=some (.dK [])/\H p.2=none/\p.2≠D)->(ps.map (·.2)).Nodup->Qp H2) :
  ∃W:Nat->Nat->List V->St->Hp->Prop,(∃m,W 0 m [] (dO [x] [] σ) (upd H D (.lst []))) /\
 ∀i m ys σ' H,W i m ys σ' H->((kn K p).stop i H/\Qp H)\/((kn K p).go i H/\∃m',m' < m/\∀x H',(kn K p).mE i H x H'->dM 0 x σ' H' λσ2 H2=>hX σ2 H2 λb H3 =>
  if b=true then ue (gM (gE 0) (gM (Fh) rP)) σ2 H3 λy H4=>H4 D=some (.lst ys)/\ys.length < sizeLine/\W (i+1) m' (ys++[y]) σ2 (upd H4 D (.lst (ys++[y]))) else W (i+1) m' ys σ2 H3):=by
 refine cI (xs:=zs.map V.str) (λi ys σ2 H2=>∃(ts:List Addr)(ps:List (Str×Addr)),ys=ts.map V.ref/\ts.length=i/\ps.map (·.1)=zs.take i/\Paired (λt (p:Str×Addr)=>aR K H2 t [.str p.1,.ref p.2]) ts ps /\
   (∀p∈ps,H2 p.2=some (.dK [])/\H p.2=none/\p.2≠D)/\(ps.map (·.2)).Nodup/\(∃y0,σ2=[y0])/\aB H H2/\H2 D=some (.lst ys))
  ⟨[],[],rfl,rfl,rfl,.nil,by simp,by simp,⟨none,rfl⟩,af hD _,ae⟩ (λi ys σ2 H2 _ h=>?_) (λi x ys σ2 H2 ex h=>?_) (λys σ2 H2 h=>?_)
 .obtain⟨_,_,_,_,_,_,_,_,_,sm,_⟩:=h;exact sm.seq hp
 .obtain⟨ts,ps,rfl,ht,hm,qA,hl,hn,⟨y0,rfl⟩,sm,hd⟩:=h;rw [bo] at ex;obtain⟨z,ez,rfl⟩:=cg.mp ex;have li:=(bj.mp ez).1;refine goN (yE ?_);refine⟨_,rfl,λl um=>⟨oK,λt jz=>?_⟩⟩;have Nc:l≠D:=(az hd um).symm;have nt:t≠l:=λe=>by rw [e,ae] at jz;cases jz
  have Q8:H2 t=none:=by rw [ai nt] at jz;exact jz
  have ntD:t≠D:=(az hd Q8).symm;have v8:aB H2 (upd (upd H2 l (.dK [])) t (.tup [.str z,.ref l])):=(af um _).trans (af jz _);have jf:=v8 _ _ hd;have el:upd (upd H2 l (.dK [])) t (.tup [.str z,.ref l]) l=some (.dK []):=by rw [ai nt.symm,ae]
  have et:aR K (upd (upd H2 l (.dK [])) t (.tup [.str z,.ref l])) t [.str z,.ref l]:=aR.of ae;generalize upd (upd H2 l (.dK [])) t (.tup [.str z,.ref l])=H4 at v8 jf el et;refine⟨jf,bF (by rw [av];omega),ts++[t],ps++[(z,l)],by rw [bG];rfl,by rw [bp,ht];rfl,by rw [bG,hm,cQ,ez];rfl,?_,?_,?_,⟨_,rfl⟩,?_,ae⟩
  .exact gX (Paired.eJ qA λt' h' z=>aW jf (v8.tup z)) (aW jf et)
  .intro p' pL;rcases cq.mp pL with h | h
   .obtain⟨a1,a2,a3⟩:=hl p' h;exact⟨by rw [ai a3];exact v8 _ _ a1,a2,a3⟩
   rw [bC.mp h];exact⟨by rw [ai Nc];exact el,sm.free um,Nc⟩
  .rw [bG];refine j9.mpr ⟨hn,by simp,λa ha b hb e=>?_⟩;rw [o_,bC] at hb;obtain⟨p',pL,rfl⟩:=cy.mp ha;have:=(hl p' pL).1;rw [e,hb] at this;rw [show H2 l=none from um] at this;cases this
  intro b o hb;rw [ai (λz=>by rw [z,hD] at hb;cases hb)];exact v8 _ _ (sm b o hb)
 obtain⟨ts,ps,rfl,ht,hm,qA,hl,hn,_,sm,hd⟩:=h;rw [av,cP] at hm;exact q ts ps H2 sm hd hm qA hl hn
def h_ {K:a8}{H:Hp}{D a C dx:Addr}{xs:List V}{fs:List (Str×V)}{o:HO}(hD:H D=some (.ins C dx fs))(h:aR K H a xs):aR K (upd H D o) a xs:=by
 rcases h with (h | ⟨u,h⟩) | h
 .exact .inl (.inl (by rw [ai (λz=>by rw [z,hD] at h;cases h)];exact h))
 .exact .inl (.inr ⟨u,by rw [ai (λz=>by rw [z,hD] at h;cases h)];exact h⟩)
 exact .inr h
def yR {K:a8}{H:Hp}{R D:Addr}{rs:List Addr}{es:List (Str×Nat)}{σ:St}{x1 x2:Str}{Qp:Hp->Prop}(hR:aG K H R (rs.map V.ref))(cT:Paired (λt (e:Str×Nat)=>aR K H t [.str e.1,.int (e.2:Int)]) rs es)(br:es.length<=1000)(hD:H D=none)
  (q:∀ts H2,aB H H2->H2 D=some (.lst (ts.map V.ref))->Paired (λt h=>aR K H2 t [.str h,.bl true]) ts (es.map (·.1))->Qp H2) :
  ∃W:Nat->Nat->List V->St->Hp->Prop,(∃m,W 0 m [] (dO [x1,x2] [] σ) (upd H D (.lst []))) /\
 ∀i m ys σ' H,W i m ys σ' H->((kn K R).stop i H/\Qp H)\/((kn K R).go i H/\∃m',m' < m/\∀x H',(kn K R).mE i H x H'->AZ K 2 (ju (dM 0) (ju (dM 1) DV)) x σ' H' λσ2 H2=>hX σ2 H2 λb H3 =>
  if b=true then ue (gM (gE 0) (gM (tC (.bl true)) rP)) σ2 H3 λy H4=>H4 D=some (.lst ys)/\ys.length < sizeLine/\W (i+1) m' (ys++[y]) σ2 (upd H4 D (.lst (ys++[y]))) else W (i+1) m' ys σ2 H3):=by
 have ll:=a_ cT;refine cI (xs:=rs.map V.ref) (λi ys σ2 H2=>∃ts:List Addr,ys=ts.map V.ref/\ts.length=i/\Paired (λt h=>aR K H2 t [.str h,.bl true]) ts ((es.take i).map (·.1))/\(∃y0 y1,σ2=[y0,y1])/\aB H H2/\H2 D=some (.lst ys))
  ⟨[],rfl,rfl,.nil,⟨none,none,rfl⟩,af hD _,ae⟩ (λi ys σ2 H2 _ h=>?_) (λi x ys σ2 H2 ex h=>?_) (λys σ2 H2 h=>?_)
 .obtain⟨_,_,_,_,_,sm,_⟩:=h;exact sm.seq hR
 .obtain⟨ts,rfl,ht,hp,⟨y0,y1,rfl⟩,sm,hd⟩:=h;rw [bo] at ex;obtain⟨r,er,rfl⟩:=cg.mp ex;have lr:=(bj.mp er).1;obtain⟨ru,e1⟩:∃ru,es[i]?=some ru:=⟨es[i]'∅,b_ ∅⟩;obtain⟨r',RW,v1⟩:=Paired.at_ cT i ru e1;rw [er] at RW;cases RW;have li:=(bj.mp e1).1;refine⟨r,_,rfl,sm.tup v1,rfl,_,_,rfl,_,_,rfl,rfl,?_⟩;refine yE ?_;refine⟨_,rfl,oK,λt jz=>⟨?_,bF (by rw [av];omega),ts++[t],?_,?_,?_,⟨_,_,rfl⟩,?_,ae⟩⟩
  .rw [ai (az hd jz)];exact hd
  .rw [bG];rfl
  .rw [bp,ht];rfl
  .rw [cQ,e1,bG];have jf:upd H2 t (.tup [.str ru.1,.bl true]) D=some (.lst (ts.map V.ref)):=by rw [ai (az hd jz)];exact hd
   exact gX (Paired.eJ hp λt' h' z=>aW jf ((af jz _).tup z)) (aW jf (aR.of ae))
  intro b o hb;rw [ai (λz=>by rw [z,hD] at hb;cases hb)];exact af jz _ _ _ (sm b o hb)
 obtain⟨ts,rfl,ht,hp,_,sm,hd⟩:=h;rw [av,ll,cP] at hp;exact q ts H2 sm hd hp
end L2
namespace M11
open PySem L2
def xC.sub {aa:List au}{names:List Str}{b:Str->Bool}{cS:List Be}(h:xC aa names b cS):∀q∈gF cS,q.1∈aa.map (·.1)/\q.2∈aa.flatMap (·.2):=by
 induction h with
 | nil=>intro q hq;cases hq
 | @snoc cS k j ru z wd hb er ez _ hw _ ih =>
  intro q hq;unfold gF at hq;rw [bG] at hq;rcases cq.mp hq with hq | hq
  .exact ih q hq
  rw [o_,bC] at hq;rw [hq];have hm:=b8 er;refine⟨j_ hm,?_⟩;unfold qx at hw
  split at hw
  .exact(ih (z,wd) (A0.mp hw)).2
  rw [bC.mp hw];exact ro.mpr ⟨ru,hm,b8 ez⟩
def xC.nd {aa:List au}{names:List Str}{b:Str->Bool}{cS:List Be}(h:xC aa names b cS):(gF cS).Nodup:=by
 induction h with
 | nil=>exact kK
 | @snoc cS k j ru z wd hb er ez _ hw hn ih =>
  unfold gF;rw [bG];refine j9.mpr ⟨ih,by simp,λx hx y hy e=>?_⟩;rw [o_,bC] at hy;rw [e,hy] at hx;exact hn hx
theorem yb (m:List Str):∀l:List Str,(l.flatMap λn=>m.map λwd=>(n,wd)).length=l.length * m.length
 | []=>by simp
 | n::l=>by
  rw [vy,bp,yb m l,av,dS,Nat.add_mul];omega
def xC.len {aa:List au}{names:List Str}{b:Str->Bool}{cS:List Be}(h:xC aa names b cS)(hl:aa.length<=100)(h8:∀ru∈aa,ru.2.length<=8):cS.length<=80000:=by
 have h1:=gA (gF cS) ((aa.map (·.1)).flatMap λn=>(aa.flatMap (·.2)).map λwd=>(n,wd)) h.nd λq hq=>by
  obtain⟨a,c⟩:=h.sub q hq;exact ro.mpr ⟨q.1,a,cy.mpr ⟨q.2,c,rfl⟩⟩
 rw [yb] at h1;have h2:=gT.jv aa 100 hl h8;unfold gF at h1;rw [av,av] at h1;have h3:aa.length * (aa.flatMap (·.2)).length<=100 * 800:=Nat.mul_le_mul hl h2;omega
def KU (aa:List au) (names:List Str)(b:Str->Bool) (n:Nat)(cS:List Be):Prop:=∀k ru,k < n->aa[k]?=some ru->∀j z,j < DZ b ru.2->ru.2[j]?=some z->∀wd∈qx names cS z,(ru.1,wd)∈gF cS
end M11
namespace gT
open PySem L2 M11
section
def BY (K:a8)(C:Addr):Sp:=λvs H Q _=>∃(H0:Hp)(a dx R:Addr)(rs:List Addr)(aa:List au),vs=[.ref a,.ref R]/\aB H0 H/\H0 a=none/\H a=some (.ins C dx [])/\aG K H0 R (rs.map V.ref)/\bJ K H0 rs aa/\aa.length<=100/\(∀ru∈aa,ru.2.length<=8) /\
 ∀(e d bg:Addr)(kE:List (aL×V))(bz:List (Str×Nat))(ps:List (Str×Addr))(cS:List Be)(H':Hp),ux K C H0 H' a e d bg kE bz ps cS->ps.map (·.1)=hd aa->xu aa bz->zk aa aa.length bz->(∀z,(bf kE (Sum.inr z)).isSome=decide (z∈bz.map (·.1))) ->
  xC aa (hd aa) (λz=>decide (z∈bz.map (·.1))) cS->KU aa (hd aa) (λz=>decide (z∈bz.map (·.1))) aa.length cS->Q .eV H'
def nV:aI ["self","rules","number","many","rule"] ["self","rules"] (ay Ab):=iT rfl rfl rfl rfl nofun
def GQ {C fF:Addr}{fdF:FuncData}(F:iz K "__init__" "BeginTable.__init__" Ab f fd)(T:Txt mg)(B:BC K C)(GE:aE P w K mg base 1 "found_empties" ["rules"] (px K))(GH:aE P w K mg base 1 "heads_of" ["rules"] (jG K))
  (FF:bR P w K mg base fY 2 fF fdF ["self","number","rule"] (Fu K C))(MF:Meth K C "find_begins" fF)(BF:Binds K fdF ["self","number","rule"] []):bR P w K mg base fY 3 f fd ["self","rules"] (BY K C):=by
 refine F.ok nV (λvs H Q E h=>?_) (λeK A outer s H vs Q E hr h=>?_)
 .obtain⟨H0,a,dx,R,rs,aa,rfl,_⟩:=h;rfl
 obtain⟨H0,a,dx,R,rs,aa,rfl,s0,f0,ea,hR,cT,br,h8,q⟩:=h;refine⟨_,aj (gO (pv 0) (bc (GE.mono (by decide:1<=2)) hr rfl (ab (pv 1) ah)) rfl)
  (aj (gO (pv 0) (aV (dP rfl) rfl T.Bc fO (ab (ba ["name","number"] [] rfl (aX (e_ (pv 0) rfl)) (a9 rfl rfl) nofun rfl nofun
   (λ_ _ _ _ _=>ff (n:=2) K rfl (aA (ao (i:=0) (show (["name","number"]:List Str).Nodup by decide +kernel) rfl (bB rfl)) (aA (ao (i:=1) (show (["name","number"]:List Str).Nodup by decide +kernel) rfl (bB rfl)) bV))) (λ_ _ _ _ _=>bQ)
   (λ_ _ _ _ _=>bS (ab (pv 0) (ab dW ah)))) ah)) rfl)
  (aj (gO (pv 0) (bA ah) rfl)
  (aj (gO (pv 0) (aV (dP rfl) rfl T.Bc fO (ab (ba ["name"] [] rfl (aX (bc (GH.mono (by decide:1<=2)) hr rfl (ab (pv 1) ah))) (a9 rfl rfl) nofun rfl nofun
   (λ_ _ _ _ _=>ao (i:=0) (show (["name"]:List Str).Nodup by decide +kernel) rfl (bB rfl)) (λ_ _ _ _ _=>bQ)
   (λ_ _ _ _ _=>bS (ab (pv 0) (ab gQ ah)))) ah)) rfl)
  (aj (aC (i:=3) nV.nd rfl (bB rfl) (l7 ja ar))
  (ak (k9 b9 (bw qi (pv 3) (aF aK rfl T.len dJ (ab (e_ (pv 0) rfl) ah)) (bW _))
   (aj (aC (i:=3) nV.nd rfl (bB rfl) (aF aK rfl T.len dJ (ab (e_ (pv 0) rfl) ah)))
   (ak (bK b9 rfl (n5 rfl T.Ko (ab (pv 1) ah)) (gP rfl (aA (ao (i:=2) nV.nd rfl (bB rfl)) (aA (ao (i:=4) nV.nd rfl (bB rfl)) bV)))
    (ak (cC (Cc (pv 0) B.cls MF FF hr BF .nil uL (ab (pv 2) (ab (pv 4) ah)))))))))))))),?_⟩
 nofun
 have ll:=a_ cT;refine⟨_,rfl,R,rs,aa,rfl,s0.seq hR,cT.same s0,∅,h8,λD1 CQ bz H1 f1 s1 e1 w1 emp Eh=>?_⟩;have Ks:=s1 _ _ ea;refine⟨_,rfl,a,C,dx,[],rfl,Ks,B.cls,B.a1,(by show 0 < 1000;decide),?_⟩;have e2:upd H1 a (.ins C dx (dU "empties" (.ref D1) [])) D1=some (.lst (CQ.map V.ref)):=by rw [ai (λz=>by rw [z,Ks] at e1;cases e1)];exact e1
 have w2:pV K (upd H1 a (.ins C dx (dU "empties" (.ref D1) []))) CQ bz:=w1.keep λ_ _ z=>h_ Ks z;have FR:aB H0 (upd H1 a (.ins C dx (dU "empties" (.ref D1) []))):=λc o hc=>by rw [ai (λz=>by rw [z,f0] at hc;cases hc)];exact s1 _ _ (s0 c o hc)
 have Sa:upd H1 a (.ins C dx (dU "empties" (.ref D1) [])) a=some (.ins C dx (dU "empties" (.ref D1) [])):=ae;generalize upd H1 a (.ins C dx (dU "empties" (.ref D1) []))=H2 at e2 w2 FR Sa;have lets:=emp.len;refine⟨_,rfl,a,C,dx,_,_,rfl,Sa,B.cls,B.a1,rfl,D1,rfl,⟨_,aG.of e2⟩,λD2 i5=>yR (aG.of e2) w2 ∅ i5 λxw H3 s3 e3 p3=>?_⟩;have kp:Paired (λt (kv:aL×V)=>aR K H3 t [kV kv.1,kv.2]) xw ((bz.map (·.1)).map λh=>((Sum.inr h:aL),V.bl true)):=cu p3 λ_ _ z=>z;refine⟨D2,xw,_,rfl,e3,kp,λe he=>?_⟩;have Dy:∀z,(bf (df ((bz.map (·.1)).map λh=>((Sum.inr h:aL),V.bl true)) []) (Sum.inr z)).isSome=decide (z∈bz.map (·.1)):=λz=>by
  rw [nE];by_cases c:z∈bz.map (·.1)
  .rw [ax c,bN c];rfl
  rw [aw c,cV c];rfl
 generalize df ((bz.map (·.1)).map λh=>((Sum.inr h:aL),V.bl true)) []=kE at Dy;have x9:=(FR.trans s3).trans (af he (.dK kE));have Oi:=af he (.dK kE) _ _ (s3 _ _ Sa);have Uk:upd H3 e (.dK kE) e=some (.dK kE):=ae;have CW:aB H2 (upd H3 e (.dK kE)):=s3.trans (af he (.dK kE));generalize upd H3 e (.dK kE)=H4 at x9 Oi Uk CW;have X9:=CW _ _ e2;have wE4:pV K H4 CQ bz:=w2.keep λ_ _ z=>CW.tup z;refine⟨_,rfl,a,C,dx,_,rfl,Oi,B.cls,B.a2,(by show 1 < 1000;decide),?_⟩;generalize W6:dU "empty" (.ref e) (dU "empties" (.ref D1) [])=LA;have R8:upd H4 a (.ins C dx LA) e=some (.dK kE):=by rw [ai (λz=>by rw [z,Oi] at Uk;cases Uk)];exact Uk
 have B4:aB H0 (upd H4 a (.ins C dx LA)):=λc o hc=>by rw [ai (λz=>by rw [z,f0] at hc;cases hc)];exact x9 c o hc
 have ea5:upd H4 a (.ins C dx LA) a=some (.ins C dx LA):=ae;have X8:upd H4 a (.ins C dx LA) D1=some (.lst (CQ.map V.ref)):=by rw [ai (λz=>by rw [z,Oi] at X9;cases X9)];exact X9
 have YU:pV K (upd H4 a (.ins C dx LA)) CQ bz:=wE4.keep λ_ _ z=>h_ Oi z;generalize upd H4 a (.ins C dx LA)=H5 at R8 B4 ea5 X8 YU;refine⟨rM,λbg NQ=>?_⟩;have fbg:H0 bg=none:=B4.free NQ;have Um:upd H5 bg (.lst []) bg=some (.lst []):=ae;have FQ:=B4.trans (af NQ (.lst []));have Of:=af NQ (.lst []) _ _ R8;have I_:=af NQ (.lst []) _ _ ea5;have VW:D1≠bg:=az X8 NQ;have Uu:=af NQ (.lst []) _ _ X8;have YT:pV K (upd H5 bg (.lst [])) CQ bz:=YU.keep λ_ _ z=>(af NQ (.lst [])).tup z;generalize upd H5 bg (.lst [])=H6 at Um FQ Of I_ Uu YT;refine⟨_,rfl,a,C,dx,_,rfl,I_,B.cls,B.a3,(by rw [<-W6];show 2 < 1000;decide),?_⟩;generalize hf7:dU "begins" (.ref bg) LA=Kk;have Oe:upd H6 a (.ins C dx Kk) e=some (.dK kE):=by rw [ai (λz=>by rw [z,I_] at Of;cases Of)];exact Of
 have eb7:upd H6 a (.ins C dx Kk) bg=some (.lst []):=by rw [ai (λz=>by rw [z,I_] at Um;cases Um)];exact Um
 have II:aB H0 (upd H6 a (.ins C dx Kk)):=λc o hc=>by rw [ai (λz=>by rw [z,f0] at hc;cases hc)];exact FQ c o hc
 have ea7:upd H6 a (.ins C dx Kk) a=some (.ins C dx Kk):=ae;have dE7:upd H6 a (.ins C dx Kk) D1=some (.lst (CQ.map V.ref)):=by rw [ai (λz=>by rw [z,I_] at Uu;cases Uu)];exact Uu
 have YS:pV K (upd H6 a (.ins C dx Kk)) CQ bz:=YT.keep λ_ _ z=>h_ I_ z;generalize upd H6 a (.ins C dx Kk)=H7 at Oe eb7 II ea7 dE7 YS;refine⟨_,rfl,R,rs,aa,rfl,II.seq hR,cT.same II,∅,λD4 H8 f8 s8 e8=>?_⟩;have J1:=iE (aa.map (·.1)) [];simp only [iX,av] at J1;refine⟨D4,rfl,⟨_,aG.of e8⟩,λD5 Lz=>yS (aG.of e8) ∅ Lz λts ps H9 s9 e9 m9 p9 l9 n9=>?_⟩;have n1:(ps.map (·.1)).Nodup:=by rw [m9];exact pR _ kK
 have DF:Paired (λt (kv:aL×V)=>aR K H9 t [kV kv.1,kv.2]) ts (ps.map jy):=cu p9 λ_ _ z=>z;refine⟨D5,ts,_,rfl,e9,DF,λd ub=>?_⟩;have RY:df (ps.map jy) []=ps.map jy:=oA _ [] (by
  rw [kR,n8];exact wM n1)
 rw [RY];have OM:=s8.trans s9;have sd:=af ub (.dK (ps.map jy));have Ac:=OM.trans sd;have qD:upd H9 d (.dK (ps.map jy)) d=some (.dK (ps.map jy)):=ae;have Nf:∀p∈ps,upd H9 d (.dK (ps.map jy)) p.2=some (.dK [])/\p.2≠d:=λp hp=>⟨sd _ _ (l9 p hp).1,λz=>by have:=(l9 p hp).1;rw [z,ub] at this;cases this⟩;generalize upd H9 d (.dK (ps.map jy))=zD at Ac qD Nf;have A9:=Ac _ _ ea7;have xf:=Ac _ _ Oe;have Oh:=Ac _ _ eb7;have Vp:=II.trans Ac;have Ox:=Ac _ _ dE7;have US:pV K zD CQ bz:=YS.keep λ_ _ z=>Ac.tup z;refine⟨_,rfl,a,C,dx,_,rfl,A9,B.cls,B.a4,(by rw [<-hf7,<-W6];show 3 < 1000;decide),?_⟩;have fp:∀p∈ps,H0 p.2=none/\p.2≠e:=λp hp=>by
  have h8':H8 p.2=none:=(l9 p hp).2.1;refine⟨(II.trans s8).free h8',λz=>?_⟩;have:=s8 _ _ Oe;rw [<-z,h8'] at this;cases this
 have hfs:∃fs,dU "firsts" (.ref d) Kk=fs/\fs.lookup ("empty":Str)=some (.ref e)/\fs.lookup ("begins":Str)=some (.ref bg)/\fs.lookup ("firsts":Str)=some (.ref d)/\fs.lookup ("find_begins":Str)=none/\fs.lookup ("words_of_part":Str)=none/\fs.lookup ("empties":Str)=some (.ref D1):=by
  refine⟨_,rfl,?_⟩;rw [<-hf7,<-W6];refine⟨?_,?_,?_,?_,?_,?_⟩ <;> rfl
 obtain⟨fs,efs,k1,k2,k3,k4,k5,k6⟩:=hfs;rw [efs];have E7:ux K C H0 (upd zD a (.ins C dx fs)) a e d bg kE bz ps []:=by
  refine⟨λc o hc=>by rw [ai (λz=>by rw [z,f0] at hc;cases hc)];exact Vp c o hc,⟨dx,fs,ae,k1,k2,k3,k4,k5⟩,?_,?_,n1,n9,λp hp=>⟨⟨[],?_,rfl⟩,(fp p hp).1,(fp p hp).2,(Nf p hp).2⟩,⟨[],?_,.nil⟩,fbg,⟨D1,CQ,⟨dx,fs,ae,k6⟩,by rw [ai (λz=>by rw [z,A9] at Ox;cases Ox)];exact Ox,US.keep λ_ _ z=>h_ A9 z,VW⟩⟩
  .rw [ai (λz=>by rw [z,A9] at xf;cases xf)];exact xf
  .rw [ai (λz=>by rw [z,A9] at qD;cases qD)];exact qD
  .have:=(Nf p hp).1;rw [ai (λz=>by rw [z,A9] at this;cases this)];exact this
  rw [ai (λz=>by rw [z,A9] at Oh;cases Oh)];exact Oh
 generalize upd zD a (.ins C dx fs)=zg at E7;have eb:(λz=>(bf kE (Sum.inr z)).isSome)=λz=>decide (z∈bz.map (·.1)):=funext Dy;refine⟨1,rfl,?_⟩;refine⟨λmm σ vp=>∃(cS:List Be) (many:Int)(y2 y4:Option V),σ=[aM a,aM R,y2,some (.int many),y4]/\ux K C H0 vp a e d bg kE bz ps cS/\xC aa (hd aa) (λz=>decide (z∈bz.map (·.1))) cS/\-1<=many/\many<=cS.length /\
  (many=cS.length->KU aa (hd aa) (λz=>decide (z∈bz.map (·.1))) aa.length cS)/\(mm:Int)=80001 - many,⟨80002,[],-1,none,none,rfl,E7,.nil,∅,by simp,by simp,∅⟩,?_⟩
 rintro mm σ vp ⟨cS,many,y2,y4,rfl,Jg,OB,b1,b2,cl,em⟩;obtain⟨Ur,uq,q1,q2,q3,q4,q5,q6⟩:=Jg.ia;obtain⟨tb,IU,NT⟩:=Jg.lb;have lb:=a_ NT;have Nj:=OB.len br h8;refine⟨_,rfl,_,rfl,a,C,Ur,uq,_,rfl,q1,B.cls,B.a3,q3,bg,_,rfl,.inl (aG.of IU),_,_,rfl,rfl,_,rfl,?_⟩;refine cE (λc=>?_) (λc=>?_)
 .have c':=dA c;rw [av,lb] at c';refine⟨λσ uc=>∃(d8:List Be)(y2 y4:Option V),σ=[aM a,aM R,y2,some (.int (cS.length:Int)),y4]/\ux K C H0 uc a e d bg kE bz ps d8/\xC aa (hd aa) (λz=>decide (z∈bz.map (·.1))) d8/\cS.length<=d8.length /\
   (d8.length=cS.length->d8=cS/\KU aa (hd aa) (λz=>decide (z∈bz.map (·.1))) aa.length cS),?_,?_⟩
  .rintro σ uc ⟨d8,y2,y4,rfl,Iv,EE,Tv,Je⟩;have:=EE.len br h8;refine⟨(80001 - cS.length:Int).toNat,∅,d8,_,_,_,rfl,Iv,EE,∅,∅,λz=>?_,∅⟩;obtain⟨Ku,Ek⟩:=Je ∅;rw [Ku];exact Ek
  refine⟨_,rfl,a,C,Ur,uq,_,rfl,q1,B.cls,B.a3,q3,bg,_,rfl,.inl (aG.of IU),?_⟩;rw [av,lb];refine⟨_,rfl,R,_,rfl,Jg.sm.seq hR,?_⟩;refine lG (xs:=rs.map V.ref) (λi σ uc=>∃(d8:List Be)(y2 y4:Option V),σ=[aM a,aM R,y2,some (.int (cS.length:Int)),y4]/\ux K C H0 uc a e d bg kE bz ps d8/\xC aa (hd aa) (λz=>decide (z∈bz.map (·.1))) d8/\cS.length<=d8.length /\
   (d8.length=cS.length->d8=cS/\KU aa (hd aa) (λz=>decide (z∈bz.map (·.1))) i cS)) ⟨cS,_,_,rfl,Jg,OB,aD _,λ_=>⟨rfl,λk ru hk=>by omega⟩⟩ ?_ ?_ ?_
  .rintro i σ uc _ ⟨d8,y2,y4,rfl,Iv,_⟩;exact Iv.sm.seq hR
  .rintro i x σ uc t ex ⟨d8,y2,y4,rfl,Iv,EE,Tv,Je⟩ ht
   ac_nf0
   rw [bo] at ex;obtain⟨r,er,rfl⟩:=cg.mp ex;obtain⟨ru,tD,rv⟩:=cT.get er;have jU:=b8 tD;have Sy:=Iv.same (af ht (.tup [.int (i:Int),.ref r]));have Q3:aR K (upd uc t (.tup [.int (i:Int),.ref r])) t [.int (i:Int),.ref r]:=aR.of ae;generalize upd uc t (.tup [.int (i:Int),.ref r])=UD at Sy Q3;obtain⟨dx4,O4,r1,r2,r3,r4,r5,r6⟩:=Sy.ia;refine⟨t,_,rfl,Q3,rfl,_,_,rfl,_,_,rfl,rfl,?_⟩;refine⟨_,rfl,a,dx4,O4,rfl,r1,r5,_,rfl,_,rfl,H0,a,e,d,bg,r,kE,bz,ps,d8,i,ru,aa,rfl,Sy,rv,tD,h8 ru jU,by rw [m9];exact(hV _ _ _).mpr (.inr (j_ jU)),?_,?_,?_⟩
   .intro xm IV;have:=IV.len br h8;omega
   .rw [m9,eb];exact EE
   rw [m9,eb];intro Yk H15 YD Yj l15 Yg;refine⟨Yk,_,_,rfl,YD,Yj,∅,λhl3=>?_⟩;obtain⟨x1,x2⟩:=Je ∅;obtain⟨x3,x4⟩:=Yg ∅;refine⟨x3.trans x1,λk C7 hk XC j z hj ez wd hw=>?_⟩;by_cases ck:k < i
   .exact x2 k C7 ck XC j z hj ez wd hw
   have:k=i:=by omega
   subst this;rw [tD] at XC;cases XC;rw [<-x1] at hw ⊢;exact x4 j z hj ez wd hw
  rintro σ uc ⟨d8,y2,y4,rfl,Iv,EE,Tv,Je⟩;rw [av,ll] at Je;exact⟨d8,_,_,rfl,Iv,EE,Tv,Je⟩
 have c':=of_decide_eq_false (rB.mpr c);rw [av,lb] at c';exact q e d bg kE bz ps cS vp Jg m9 emp Eh Dy OB (cl ∅)
end
end gT
namespace L2
open PySem PySem.W
section
variable {X:Cx}{ag:List (Addr×Obj)}{σ:St}{H:Hp}{s:Shared}{a:Addr}{kvs:List (aL×V)}{k:aL}{u:Value}{A:Around}{E:Value->Shared->Prop}
def Ov {z:V}{r:Value}{Q:Value->Shared->Prop}(I:Inv X ag σ H s)(e:H a=some (.dK kvs))(hl:kvs.length < sizeLine)(ry:RelV (kV k) u)(rz:RelV z r)
  (h1:∀v w' s',bf kvs k=some v->Inv X ag σ H s'->RelV v w'->Q w' s')(h2:bf kvs k=none->∀s',Inv X ag σ (upd H a (.dK (bL kvs k z))) s'->Q r s') :
  wpAny (model X.prog X.w) A (call (.builtin "dict.setdefault") [.ref a,u,r]) Q E s:=by
 obtain⟨zl,hd,vs,rel,dd⟩:=yL I.bZ e;refine call_meetsIn PySem.F.slot_dict_setdefault dd.typeIs PySem.F.entry_dict_setdefault (PySem.F.args_dict_setdefault_3 _ _ _) (kt_meets_setdefault (bh X.prog X.w) a (l_ ry) hd r)
  ⟨vs,dd,by rw [<-rel.length];exact zl,λv hv=>?_,λhn h' Jc hs=>?_⟩
 .have rv:=rel.val k;rw [hv] at rv;cases e2:bf kvs k with
  | none=>rw [e2] at rv;cases rv
  | some x=>rw [e2] at rv;exact h1 x v _ e2 (I.tok _) rv
 have Hs:bf kvs k=none:=by
  have rv:=rel.val k;rw [hn] at rv;cases e2:bf kvs k with
  | none=>rfl
  | some x=>rw [e2] at rv;cases rv
 have he:∃q,h'.get? a=some q:=let ⟨q,_,_,hq,_⟩:=Jc;⟨q,hq⟩;exact h2 Hs _ (qR I (by rw [e];exact True.intro) hs he (tH (by have:=fM kvs k z;omega) hd (rel.put k rz) Jc))
end
section
variable {X:Cx}{o e f:Expr}{apos gU:Pos}{td ty tx:TE}
def Mp (td ty tx:TE):TE:=λσ H Q=>td σ H λx H1=>∃a,x=.ref a/\UC H1 a/\ty σ H1 λy H2=>tx σ H2 λz H3=>∃kvs k,H3 a=some (.dK kvs)/\y=kV k/\kvs.length < sizeLine /\
 (∀v,bf kvs k=some v->Q v H3)/\(bf kvs k=none->Q z (upd H3 a (.dK (bL kvs k z))))
def Gg (ho:PE X o td)(he:PE X e ty)(hf:PE X f tx)(m:M2 X o "setdefault" apos e f gU):PE X (.Call (.Attribute o "setdefault" apos) [e,f] [] gU) (Mp td ty tx):=by
 intro ag s σ H Q I h;refine wpAny_Call_method m.base m.A4 m.line zH PySem.F.slot_dict_setdefault PySem.F.type_dict_setdefault (cX (ho ag s σ H _ I h) λu s1 bx=>?_);obtain⟨x,H1,I1,rx,a,ex,d,q1⟩:=bx;subst ex;obtain rfl:u=Value.ref a:=rx;obtain⟨t1,t2,_⟩:=AN I1 d;refine⟨t1,t2,?_⟩;rw [m.trees];refine rG rfl (vC (p_ (cX (he ag s1 σ H1 _ I1 q1) λiv s2 ⟨y,H2,I2,ry,q2⟩ =>
  p_ (cX (hf ag s2 σ H2 _ I2 q2) λfv s3 ⟨z,H3,I3,rz,kvs,k,ea,ey,hl,q3,q4⟩=>oX ?_))))
 subst ey;exact Ov I3 ea hl ry rz (λv w' s4 l I4 Ae=>⟨v,_,I4,Ae,q3 v l⟩) λl s4 I4=>⟨z,_,I4,rz,q4 l⟩
end
end L2
namespace gT
open PySem L2 M11
section
def Qk {ps:List (Str×Addr)}(n1:(ps.map (·.1)).Nodup)(n2:(ps.map (·.2)).Nodup){p p':Str×Addr}(hp:p∈ps)(pL:p'∈ps)(z:p'≠p):p'.1≠p.1/\p'.2≠p.2:=by
 refine⟨λq=>z ?_,λq=>z ?_⟩
 .have w1:=g6 ps n1 p' pL;have w2:=g6 ps n1 p hp;rw [q,w2] at w1;injection w1 with w3;injection w3 with w4;exact Prod.ext q w4.symm
 obtain⟨i,hi,ei⟩:=qU.mp pL;obtain⟨j,hj,ej⟩:=qU.mp hp;have Kg:i=j:=by
  refine(vw (xs:=ps.map (·.2)) (h₀:=by simpa using hi) (h₁:=by simpa using hj) n2).mp ?_;rw [oZ,oZ,ei,ej];exact q
 subst Kg;exact ei.symm.trans ej
structure Jh (ps:List (Str×Addr))(st:Str->List Int)(H:Hp)(d:Addr):Prop where
 hd:H d=some (.dK (ps.map jy))
 n1:(ps.map (·.1)).Nodup
 n2:(ps.map (·.2)).Nodup
 lst:∀p∈ps,H p.2=some (.lst ((st p.1).map V.int))
def Jh.same {ps:List (Str×Addr)}{st:Str->List Int}{H H':Hp}{d:Addr}(h:Jh ps st H d)(s:aB H H'):Jh ps st H' d:=⟨s _ _ h.hd,h.n1,h.n2,λp hp=>s _ _ (h.lst p hp)⟩
def CF (st:Str->List Int)(n:Str) (k:Int):Str->List Int:=λz=>if z=n then st z++[k] else st z
def Jh.more {ps:List (Str×Addr)}{st:Str->List Int}{H:Hp}{d:Addr}(h:Jh ps st H d){p:Str×Addr}(hp:p∈ps) (k:Int):Jh ps (CF st p.1 k) (upd H p.2 (.lst ((st p.1).map V.int++[.int k]))) d:=by
 have a:=h.lst p hp;have nd:d≠p.2:=λz=>by have:=h.hd;rw [z,a] at this;cases this
 refine⟨by rw [ai nd];exact h.hd,h.n1,h.n2,λp' pL=>?_⟩;by_cases z:p'=p
 .rw [z,ae];have e1:CF st p.1 k p.1=st p.1++[k]:=ax rfl;rw [e1,bG];rfl
 obtain⟨a1,a2⟩:=Qk h.n1 h.n2 hp pL z;have e1:CF st p.1 k p'.1=st p'.1:=aw a1;rw [ai a2,e1];exact h.lst p' pL
def Fo (K:a8):Sp:=λvs H Q _=>∃(R:Addr)(rs:List Addr)(aa:List au),vs=[.ref R]/\aG K H R (rs.map V.ref)/\bJ K H rs aa/\aa.length<=1000 /\
 ∀(d:Addr)(ps:List (Str×Addr))(H':Hp),H d=none->aB H H'->Jh ps (λn=>nums aa n aa.length) H' d->ps.map (·.1)=hd aa->(∀p∈ps,H p.2=none)->Q (.ref d) H'
def wa:aI ["rules","numbers","number","rule"] ["rules"] (ay FD):=iT rfl rfl rfl rfl nofun
def JO (F:iz K "numbers_by_name" "numbers_by_name" FD f fd)(T:Txt mg)(GH:aE P w K mg base 1 "heads_of" ["rules"] (jG K)):bR P w K mg base fY 2 f fd ["rules"] (Fo K):=by
 refine F.ok wa (λvs H Q E h=>?_) (λeK A outer s H vs Q E hr h=>?_)
 .obtain⟨R,rs,aa,rfl,_⟩:=h;rfl
 obtain⟨R,rs,aa,rfl,hR,cT,br,q⟩:=h;have hu:=fX hr;refine⟨_,aj (aC (i:=1) wa.nd rfl (bB rfl) (aV (dP rfl) rfl T.Bc fO (ab
   (ba ["name"] [] rfl (aX (bc GH hr rfl (ab (pv 0) ah))) (a9 rfl rfl) nofun rfl nofun
    (λ_ _ _ _ _=>ao (i:=0) (show (["name"]:List Str).Nodup by decide +kernel) rfl (bB rfl)) (λ_ _ _ _ _=>bQ)
    (λ_ _ _ _ _=>bS (ab (pv 0) (ab (bA ah) ah)))) ah)))
  (aj (bK b9 rfl (n5 rfl T.Ko (ab (pv 0) ah)) (gP rfl (aA (ao (i:=2) wa.nd rfl (bB rfl)) (aA (ao (i:=3) wa.nd rfl (bB rfl)) bV)))
   (ak (cC (gR f_ gK gL bM (eI hu (pv 1) (aP bq (pv 3) ar (λ_ _=>rfl)) (λ_ _=>rfl)) (ab (pv 2) ah)))))
  (ak (aQ (pv 1)))),?_⟩
 nofun
 have ll:=a_ cT;refine⟨_,rfl,R,rs,aa,rfl,hR,cT,br,λD2 H3 f3 s3 e3=>?_⟩;have J1:=iE (aa.map (·.1)) [];simp only [iX,av] at J1;refine⟨D2,rfl,⟨_,aG.of e3⟩,λD3 yC=>tO (aG.of e3) ∅ yC λts ps H4 s4 e4 m4 p4 l4 n4=>?_⟩;have n1:(ps.map (·.1)).Nodup:=by rw [m4];exact pR _ kK
 have DF:Paired (λt (kv:aL×V)=>aR K H4 t [kV kv.1,kv.2]) ts (ps.map jy):=cu p4 λ_ _ z=>z;refine⟨D3,ts,_,rfl,e4,DF,λd ub=>?_⟩;have RY:df (ps.map jy) []=ps.map jy:=oA _ [] (by
  rw [kR,n8];exact wM n1)
 rw [RY];have s5:=(s3.trans s4).trans (af ub (.dK (ps.map jy)));have ua:=af ub (.dK (ps.map jy));have zB:H d=none:=(s3.trans s4).free ub;have S5:Jh ps (λn=>nums aa n 0) (upd H4 d (.dK (ps.map jy))) d:=⟨ae,n1,n4,λp hp=>ua _ _ (l4 p hp).1⟩;have O5:∀p∈ps,H p.2=none:=λp hp=>s3.free (l4 p hp).2.1;generalize upd H4 d (.dK (ps.map jy))=H5 at s5 S5;clear ua;refine⟨_,rfl,R,_,rfl,s5.seq hR,?_⟩
 let qF:pU:=λi σ H6=>∃(y2 y3:Option V),σ=[aM R,aM d,y2,y3]/\aB H H6/\Jh ps (λn=>nums aa n i) H6 d
 refine lG (xs:=rs.map V.ref) qF ⟨none,none,rfl,s5,S5⟩ ?_ ?_ ?_
 .rintro i σ H6 _ ⟨y2,y3,rfl,s6,_⟩;exact s6.seq hR
 .rintro i x σ H6 t ex ⟨y2,y3,rfl,s6,S6⟩ ht
  ac_nf0
  rw [bo] at ex;obtain⟨r,er,rfl⟩:=cg.mp ex;obtain⟨ru,tD,p,v1,v2⟩:=cT.get er;have jU:=b8 tD;have li:=(bj.mp tD).1;have uJ:=af ht (.tup [.int (i:Int),.ref r]);have Ls:aR K (upd H6 t (.tup [.int (i:Int),.ref r])) t [.int (i:Int),.ref r]:=aR.of ae;have s7:=s6.trans uJ;have S7:=S6.same uJ;generalize upd H6 t (.tup [.int (i:Int),.ref r])=H7 at Ls s7 S7;obtain⟨pn,yA,zC⟩:∃pn∈ps,pn.1=ru.1:=by
   have:ru.1∈ps.map (·.1):=by rw [m4];exact(hV _ _ _).mpr (.inr (j_ jU))
   obtain⟨pn,a,b⟩:=cy.mp this;exact⟨pn,a,b⟩
  have an:=S7.lst pn yA;have vn:=g6 ps n1 pn yA;rw [zC] at vn;have hg:bX H7 d (.str ru.1) (some (.ref pn.2)):=by
   have:=bX.k (k:=Sum.inr ru.1) S7.hd;rw [vn] at this;exact this
  have ln:=yl aa pn.1 i;refine⟨t,_,rfl,Ls,rfl,_,_,rfl,_,_,rfl,rfl,?_⟩;refine⟨_,rfl,_,rfl,r,_,_,_,rfl,rfl,s7.tup v1,rfl,d,_,rfl,hg,.inl ⟨rfl,_,aG.of an⟩,_,rfl,pn.2,_,_,rfl,rfl,an,bF (by rw [av];omega),?_⟩;have S8:=S7.more yA (i:Int);refine⟨_,_,rfl,λb o hb=>by rw [ai (λz=>by rw [z,O5 pn yA] at hb;cases hb)];exact s7 b o hb,S8.hd,S8.n1,S8.n2,λp' pL=>?_⟩;have:=S8.lst p' pL;rw [this]
  congr 3
  unfold CF;rw [Dw];by_cases c:p'.1=pn.1
  .rw [ax c,ax];unfold OS;rw [tD,c,zC];simp
  rw [aw c,aw,iu];unfold OS;rw [tD];intro z;have z2:=dA z;injection z2 with z3;exact c (by rw [zC];exact z3.symm)
 rintro σ H6 ⟨y2,y3,rfl,s6,S6⟩;rw [av,ll] at S6;exact⟨_,rfl,q d ps H6 zB s6 S6 m4 O5⟩
def K2 (K:a8):Sp:=λvs H Q _=>∃(R:Addr)(rs:List Addr)(aa:List au),vs=[.ref R]/\aG K H R (rs.map V.ref)/\bJ K H rs aa/\aa.length<=1000/\(∀ru∈aa,ru.2.length<=8) /\
 ∀(d:Addr)(H':Hp),H d=none->aB H H'->Q (.ref d) H'
structure E6 (H0 H:Hp)(d:Addr)(kvs:List (aL×V)) (n:Nat):Prop where
 hd:H d=some (.dK kvs)
 ln:kvs.length<=n
 lst:∀kv∈kvs,∃a xs,kv.2=.ref a/\H a=some (.lst xs)/\H0 a=none/\xs.length<=n
def E6.same {H0 H H':Hp}{d:Addr}{kvs:List (aL×V)}{n:Nat}(h:E6 H0 H d kvs n)(s:aB H H'):E6 H0 H' d kvs n:=⟨s _ _ h.hd,h.ln,λkv hk=>let ⟨a,xs,e1,e2,e3,e4⟩:=h.lst kv hk;⟨a,xs,e1,s _ _ e2,e3,e4⟩⟩
def E6.more {H0 H:Hp}{d a:Addr}{kvs:List (aL×V)}{n:Nat}{xs:List V}{y:V}(h:E6 H0 H d kvs (n+1))(ha:H a=some (.lst xs))(lx:xs.length<=n)(l2:∀kv∈kvs,∃a xs,kv.2=.ref a/\H a=some (.lst xs)/\H0 a=none/\xs.length<=n):E6 H0 (upd H a (.lst (xs++[y]))) d kvs (n+1):=by
 have nd:d≠a:=λz=>by have:=h.hd;rw [z,ha] at this;cases this
 refine⟨by rw [ai nd];exact h.hd,h.ln,λkv hk=>?_⟩;obtain⟨b,ys,e1,e2,e3,e4⟩:=l2 kv hk;by_cases c:b=a
 .exact⟨b,xs++[y],e1,by rw [c,ae],e3,by rw [bp];simp;omega⟩
 exact⟨b,ys,e1,by rw [ai c];exact e2,e3,∅⟩
def Mi {kvs:List (aL×V)}{k:aL}{v:V}(h:bf kvs k=some v):∃kv∈kvs,kv.2=v:=by
 unfold bf at h;obtain⟨kv,e1,e2⟩:=cg.mp h;exact⟨kv,List.mem_of_find?_eq_some e1,e2⟩
def uH:aI ["rules","standings","number","rule","place","part"] ["rules"] (ay MD):=iT rfl rfl rfl rfl nofun
def M7 (F:iz K "standings_by_part" "standings_by_part" MD f fd)(T:Txt mg):bR P w K mg base fY 1 f fd ["rules"] (K2 K):=by
 refine F.ok uH (λvs H Q E h=>?_) (λeK A outer s H vs Q E hr h=>?_)
 .obtain⟨R,rs,aa,rfl,_⟩:=h;rfl
 obtain⟨R,rs,aa,rfl,hR,cT,br,h8,q⟩:=h;have hu:=fX hr;refine⟨_,aj (aC (i:=1) uH.nd rfl (bB rfl) gQ)
  (aj (bK b9 rfl (n5 rfl T.Ko (ab (pv 0) ah)) (gP rfl (aA (ao (i:=2) uH.nd rfl (bB rfl)) (aA (ao (i:=3) uH.nd rfl (bB rfl)) bV)))
   (ak (bK b9 rfl (nZ rfl T.Ko (ab (aP bq (pv 3) ar (λ_ _=>rfl)) ah)) (gP rfl (aA (ao (i:=4) uH.nd rfl (bB rfl)) (aA (ao (i:=5) uH.nd rfl (bB rfl)) bV)))
    (ak (cC (gR f_ gK gL bM (Gg (pv 1) (pv 5) (bA ah) ⟨rfl,rfl,rfl,rfl⟩) (ab (bS (ab (pv 2) (ab (pv 4) ah))) ah)))))))
  (ak (aQ (pv 1)))),?_⟩
 nofun
 have ll:=a_ cT;intro d ub;have s1:=af ub (.dK []);have S1:E6 H (upd H d (.dK [])) d [] (8 * 0):=⟨ae,aD _,λkv hk=>by cases hk⟩;generalize upd H d (.dK [])=H1 at s1 S1;refine⟨_,rfl,R,_,rfl,s1.seq hR,?_⟩
 let Bq:pU:=λi σ H6=>∃(kvs:List (aL×V))(y2 y3 y4 y5:Option V),σ=[aM R,aM d,y2,y3,y4,y5]/\aB H H6/\E6 H H6 d kvs (8 * i)
 refine lG (xs:=rs.map V.ref) Bq ⟨[],none,none,none,none,rfl,s1,S1⟩ ?_ ?_ ?_
 .rintro i σ H6 _ ⟨kvs,y2,y3,y4,y5,rfl,s6,_⟩;exact s6.seq hR
 .rintro i x σ H6 t ex ⟨kvs,y2,y3,y4,y5,rfl,s6,S6⟩ ht
  ac_nf0
  rw [bo] at ex;obtain⟨r,er,rfl⟩:=cg.mp ex;obtain⟨ru,tD,p,v1,v2⟩:=cT.get er;have jU:=b8 tD;have O2:=h8 ru jU;have li:=(bj.mp tD).1;have uJ:=af ht (.tup [.int (i:Int),.ref r]);have Ls:aR K (upd H6 t (.tup [.int (i:Int),.ref r])) t [.int (i:Int),.ref r]:=aR.of ae;have s7:=s6.trans uJ;have S7:=S6.same uJ;generalize upd H6 t (.tup [.int (i:Int),.ref r])=H7 at Ls s7 S7;refine⟨t,_,rfl,Ls,rfl,_,_,rfl,_,_,rfl,rfl,?_⟩;refine⟨_,rfl,r,_,_,_,rfl,rfl,s7.tup v1,rfl,p,_,rfl,s7.tup v2,?_⟩
  let SE:pU:=λj σ H9=>∃(kvs:List (aL×V))(y4 y5:Option V),σ=[aM R,aM d,some (.int (i:Int)),aM r,y4,y5]/\aB H H9/\E6 H H9 d kvs (8 * i+j)
  refine pN (xs:=ru.2.map V.str) SE ⟨kvs,_,_,rfl,s7,S7⟩ ?_ ?_ ?_
  .rintro j σ H9 _ ⟨kvs,y4,y5,rfl,s9,_⟩;exact s9.tup v2
  .rintro j x σ H9 t2 pO ⟨kvs,y4,y5,rfl,s9,S9⟩ jz
   ac_nf0
   rw [bo] at pO;obtain⟨z,ez,rfl⟩:=cg.mp pO;have lj:=(bj.mp ez).1;have x8:=af jz (.tup [.int (j:Int),.str z]);have Hl:aR K (upd H9 t2 (.tup [.int (j:Int),.str z])) t2 [.int (j:Int),.str z]:=aR.of ae;have uh:=s9.trans x8;have Ma:=S9.same x8;generalize upd H9 t2 (.tup [.int (j:Int),.str z])=zD at Hl uh Ma;refine⟨t2,_,rfl,Hl,rfl,_,_,rfl,_,_,rfl,rfl,?_⟩;have lk:=Ma.ln;refine⟨_,rfl,d,rfl,.inl ⟨kvs,.inl Ma.hd⟩,_,rfl,rM,λl hl=>?_⟩;have FP:=af hl (.lst []);have Jb:upd zD l (.lst []) l=some (.lst []):=ae;have fl:H l=none:=uh.free hl;have E7:=Ma.same FP;have sA:=uh.trans FP;generalize upd zD l (.lst [])=zg at FP Jb E7 sA;have fin:∀(a:Addr)(xs:List V)(mP:List (aL×V))(vp:Hp),vp a=some (.lst xs)->H a=none->xs.length<=8 * i+j->E6 H vp d mP (8 * i+j+1)->(∀kv∈mP,∃a xs,kv.2=.ref a/\vp a=some (.lst xs)/\H a=none/\xs.length<=8 * i+j)->aB H vp ->
     ∀t4,vp t4=none->xs.length < sizeLine/\∃(kvs:List (aL×V))(y4 y5:Option V),[some (V.ref R),aM d,some (.int (i:Int)),aM r,some (.int (j:Int)),some (.str z)]=[aM R,aM d,some (.int (i:Int)),aM r,y4,y5]/\aB H (upd (upd vp t4 (.tup [.int (i:Int),.int (j:Int)])) a (.lst (xs++[.ref t4])))/\E6 H (upd (upd vp t4 (.tup [.int (i:Int),.int (j:Int)])) a (.lst (xs++[.ref t4]))) d kvs (8 * i+(j+1)) :=
    λa xs mP vp ea fa lx Jg ES K7 t4 DJ=>by
     have Ad:=af DJ (.tup [.int (i:Int),.int (j:Int)]);refine⟨bF ∅,mP,_,_,rfl,λb o hb=>by rw [ai (λz=>by rw [z,fa] at hb;cases hb)];exact Ad _ _ (K7 b o hb),?_⟩;exact(Jg.same Ad).more (Ad _ _ ea) lx λkv hk=>let ⟨b,ys,e1,e2,e3,e4⟩:=ES kv hk;⟨b,ys,e1,Ad _ _ e2,e3,e4⟩
   refine⟨kvs,Sum.inr z,E7.hd,rfl,bF ∅,λv hv=>?_,λhn=>?_⟩
   .obtain⟨kv,hk,ek⟩:=Mi hv;obtain⟨a,xs,e1,e2,e3,e4⟩:=E7.lst kv hk;rw [e1] at ek;subst ek;refine⟨.inl ⟨rfl,_,aG.of e2⟩,_,rfl,_,rfl,oK,λt4 DJ=>?_⟩;obtain⟨g1,g2⟩:=fin a xs kvs zg e2 e3 e4 ⟨E7.hd,∅,λkv hk=>let ⟨b,ys,e1,e2,e3,e4⟩:=E7.lst kv hk;⟨b,ys,e1,e2,e3,∅⟩⟩ E7.lst sA t4 DJ;exact⟨a,_,_,rfl,rfl,af DJ _ _ _ e2,g1,g2⟩
   have nd:d≠l:=λz=>by have:=E7.hd;rw [z,Jb] at this;cases this
   have LO:upd zg d (.dK (bL kvs (Sum.inr z) (.ref l))) l=some (.lst []):=by rw [ai nd.symm];exact Jb
   have zB:H d=none:=ub;have K7:aB H (upd zg d (.dK (bL kvs (Sum.inr z) (.ref l)))):=λb o hb=>by rw [ai (λz=>by rw [z,zB] at hb;cases hb)];exact sA b o hb
   have ES:∀kv∈bL kvs (Sum.inr z) (.ref l),∃a xs,kv.2=.ref a/\upd zg d (.dK (bL kvs (Sum.inr z) (.ref l))) a=some (.lst xs)/\H a=none/\xs.length<=8 * i+j:=λkv hk=>by
    rw [ya _ hn] at hk;rcases cq.mp hk with h | h
    .obtain⟨b,ys,e1,e2,e3,e4⟩:=E7.lst kv h;exact⟨b,ys,e1,by rw [ai (λz=>by rw [z,E7.hd] at e2;cases e2)];exact e2,e3,e4⟩
    rw [bC.mp h];exact⟨l,[],rfl,LO,fl,by simp⟩
   have lp:=fM kvs (Sum.inr z:aL) (.ref l);have Jg:E6 H (upd zg d (.dK (bL kvs (Sum.inr z) (.ref l)))) d (bL kvs (Sum.inr z) (.ref l)) (8 * i+j+1):=⟨ae,∅,λkv hk=>let ⟨b,ys,e1,e2,e3,e4⟩:=ES kv hk;⟨b,ys,e1,e2,e3,∅⟩⟩;generalize upd zg d (.dK (bL kvs (Sum.inr z) (.ref l)))=vp at LO K7 ES Jg;refine⟨.inl ⟨rfl,_,aG.of LO⟩,_,rfl,_,rfl,oK,λt4 DJ=>?_⟩;obtain⟨g1,g2⟩:=fin l [] _ vp LO fl (by simp) Jg ES K7 t4 DJ;exact⟨l,_,_,rfl,rfl,af DJ _ _ _ LO,g1,g2⟩
  rintro σ H9 ⟨kvs,y4,y5,rfl,s9,S9⟩;rw [av] at S9;refine⟨kvs,_,_,_,_,rfl,s9,S9.hd,by have:=S9.ln;omega,λkv hk=>let ⟨b,ys,e1,e2,e3,e4⟩:=S9.lst kv hk;⟨b,ys,e1,e2,e3,∅⟩⟩
 rintro σ H6 ⟨kvs,y2,y3,y4,y5,rfl,s6,S6⟩;exact⟨_,rfl,q d H6 ub s6⟩
end
end gT
namespace L2
open PySem PySem.Spec PyProof.Rows
open PySem
def gp {X:Cx}(K:a8)(hK:X.K=K:=by rfl):kJ X (compareOp .In) (Tg K false):=by
 subst hK;exact pG
def Pr (K:a8)(H:Hp):Nat->V->V->Prop
 | 0,x,y=>x=y/\tW x
 | n+1,x,y=>(x=y/\tW x)\/∃a b xs ys,x=.ref a/\y=.ref b/\((aG K H a xs/\aG K H b ys)\/(aR K H a xs/\aR K H b ys))/\Paired (Pr K H n) xs ys
def Pr.self {K:a8}{H:Hp}{x:V}(h:tW x):∀n,Pr K H n x x
 | 0=>⟨rfl,h⟩
 | _+1=>.inl ⟨rfl,h⟩
def pQ {A:Around}{s:Shared}{F:V->V->Prop}{xs ys:List V}{aN d7:List Value}(r:aY xs aN)(r2:aY ys d7)(p:Paired F xs ys)(hF:∀x y u v,F x y->RelV x u->RelV y v->SeqAt.EqAt A s u v true) (j:Nat)(h1:j < aN.toArray.size)(h2:j < d7.toArray.size) :
  SeqAt.EqAt A s aN.toArray[j] d7.toArray[j] true:=by
 have l1:=r.length;have l2:=r2.length;have k1:j < aN.length:=by simpa using h1
 have k2:j < d7.length:=by simpa using h2
 have g2:ys[j]?=some (ys[j]'∅):=b_ ∅;obtain⟨x,g1,fx⟩:=Paired.at_ p j _ g2;obtain⟨u1,e1,q1⟩:=r.get g1;obtain⟨u2,e2,q2⟩:=r2.get g2;have f1:aN.toArray[j]=u1:=by
  have:=(bj.mp e1).2;simpa using this
 have f2:d7.toArray[j]=u2:=by
  have:=(bj.mp e2).2;simpa using this
 rw [f1,f2];exact hF _ _ _ _ fx q1 q2
theorem Ba {X:Cx}{ag:List (Addr×Obj)}{σ:St}{H:Hp}{s:Shared}(I:Inv X ag σ H s):∀(n:Nat)(A:Around)(x y:V)(u v:Value),Pr X.K H n x y->RelV x u->RelV y v->A.units+n < cLine->SeqAt.EqAt A s u v true
 | 0,A,x,y,u,v,⟨e,h⟩,ru,rv,_=>by subst e;exact tE h ru rv
 | n+1,A,x,y,u,v,.inl ⟨e,h⟩,ru,rv,_=>by subst e;exact tE h ru rv
 | n+1,A,x,y,u,v,.inr ⟨a,b,xs,ys,ex,ey,hs,p⟩,ru,rv,hu=>by
  subst ex;subst ey;cases (show u=Value.ref a from ru);cases (show v=Value.ref b from rv);by_cases e:a=b
  .subst e;exact .same _
  refine .of_refs e ?_;have lp:=a_ p;rcases hs with ⟨ha,hb⟩ | ⟨ha,hb⟩
  .obtain⟨aN,r,pl,_⟩:=I.list ha;obtain⟨d7,r2,zt,_⟩:=I.list hb;have l1:=r.length;have l2:=r2.length;have q:=SeqAt.RcAt.lists (A:=A) (s:=s) (e:=λ_=>true) pl.isList zt.isList (by simp only [bO];omega) ∅ (λj h1 h2=>pQ r r2 p (λx y u v d r1 r2=>Ba I n A.in1 x y u v d r1 r2 (by rw [rg];omega)) j h1 h2);have e:((List.range aN.toArray.size).all λ_=>true)=true:=by simp
   rw [e] at q;exact q
  obtain⟨aN,r,pl,_⟩:=I.tuple ha;obtain⟨d7,r2,zt,_⟩:=I.tuple hb;have l1:=r.length;have l2:=r2.length;have q:=SeqAt.RcAt.tuples (A:=A) (s:=s) (e:=λ_=>true) pl zt ∅ (λj h1 h2=>pQ r r2 p (λx y u v d r1 r2=>Ba I n A.in1 x y u v d r1 r2 (by rw [rg];omega)) j h1 h2);have e1:((List.range (min aN.toArray.size d7.toArray.size)).all (λ_=>true) && aN.toArray.size == d7.toArray.size)=true:=by
   have:aN.toArray.size=d7.toArray.size:=by simp only [bO];omega
   rw [this];simp
  rw [e1] at q;exact q
def Qh (K:a8)(b:Bool) (n:Nat):V->V->Hp->VK->Prop:=λx y H Q=>∃p q xs ys,x=.ref p/\y=.ref q/\aG K H p xs/\aG K H q ys/\Paired (Pr K H n) xs ys/\Q (.bl b) H
def Aq {X:Cx}(n:Nat)(hu:X.A.units+(n+1) < cLine):kJ X (compareOp .NotEq) (Qh X.K false n):=by
 intro ag s σ H x y v u Q I rx ry h;obtain⟨a,b,xs,ys,rfl,rfl,ha,hb,p,q⟩:=h;cases rx;cases ry;obtain⟨aN,r,pl,hz⟩:=I.list ha;obtain⟨d7,r2,zt,Wo⟩:=I.list hb;have l1:=r.length;have l2:=r2.length;have lp:=a_ p;refine SeqAt.RcNeAt.lists (e:=λ_=>true) pl.isList zt.isList (by simp only [bO];omega) ∅ (λj h1 h2=>pQ r r2 p (λx y u v d r1 r2=>Ba I n X.A.in1 x y u v d r1 r2 (by rw [rg];omega)) j h1 h2) X.prog X.w X.xe _ ?_;have e:(!(List.range aN.toArray.size).all λ_=>true)=false:=by simp
 rw [e];exact⟨.bl false,H,I,rfl,q⟩
section
variable {prog:Program}{w:World}{A:Around}{E:Value->Shared->Prop}{s:Shared}
abbrev ID (h:Heap)(z:Addr)(f0 f1:Value)(TI TO:Addr):Prop:=h.get? z=some { cls:=.type "zip",data:=.fields #[f0,f1,.bool false,.ref TI,.ref TO] }
end
structure Yx (h:Heap)(z TI TO i1 i2 l1 l2:Addr)(xs ys:Array Value) (i:Nat):Prop where
 hz:∃f0 f1,ID h z f0 f1 TI TO/\(f0=.none\/∃T:Nat,f0=rawInt T)
 hI:IsPair h TI (.ref i1) (.ref i2)
 hO:∃a b,IsPair h TO a b
 h1:h.IsTupleIter i1 l1 i
 h2:h.IsTupleIter i2 l2 i
 t1:h.IsTuple l1 xs
 t2:h.IsTuple l2 ys
def xJ {h h':Heap}{l:Addr}{xs:Array Value}(t:h.IsTuple l xs)(k:∀o,h.get? l=some o->h'.get? l=some o):h'.IsTuple l xs:=by
 obtain⟨o,a,b,c⟩:=t;exact⟨o,k o a,b,c⟩
def vq (h:Heap) (N:Nat)(xs ys bI:Array Value):Prop:=∃Ts:List Nat,bI.toList=Ts.map Value.ref/\Ts.Pairwise (· < ·)/\∀(j T:Nat),Ts[j]?=some T->N<=T/\∃x y:Value,IsPair h T x y/\xs[j]?=some x/\ys[j]?=some y
def vq.keep {h h':Heap}{N:Nat}{xs ys bI:Array Value}(a:vq h N xs ys bI)(k:∀(T:Nat) o,N<=T->h.get? T=some o->h'.get? T=some o):vq h' N xs ys bI:=by
 obtain⟨Ts,e1,e2,e3⟩:=a;refine⟨Ts,e1,e2,λj T hj=>?_⟩;obtain⟨l,x,y,p,q⟩:=e3 j T hj;exact⟨l,x,y,k T _ l p,q⟩
def vq.more {h:Heap}{N T0:Nat}{xs ys bI:Array Value}{x y:Value}(a:vq h N xs ys bI)(lt:∀(Ts:List Nat),bI.toList=Ts.map Value.ref->∀T∈Ts,T < T0)(hN:N<=T0)(p:IsPair h T0 x y)(hx:xs[bI.size]?=some x)(hy:ys[bI.size]?=some y):vq h N xs ys (bI.push (.ref T0)):=by
 obtain⟨Ts,e1,e2,e3⟩:=a;have el:Ts.length=bI.size:=by
  have:=congrArg List.length e1;rw [av] at this;rw [<-this];simp
 refine⟨Ts++[T0],by rw [Array.toList_push,e1,bG];rfl,List.pairwise_append.mpr ⟨e2,by simp,λT hT b hb=>by rw [bC.mp hb];exact lt Ts e1 T hT⟩,λj T hj=>?_⟩;by_cases c:j < Ts.length
 .rw [qd c] at hj;exact e3 j T hj
 rw [nv ∅] at hj;have c2:j - Ts.length=0:=by
  have:=(bj.mp hj).1;simp at this;omega
 rw [c2] at hj;cases hj;have:j=bI.size:=by omega
 rw [this];exact⟨hN,x,y,p,hx,hy⟩
def Yx.keep {h h':Heap}{z TI TO i1 i2 l1 l2:Addr}{xs ys:Array Value}{i:Nat}(st:Yx h z TI TO i1 i2 l1 l2 xs ys i)(k:∀b o,h.get? b=some o->h'.get? b=some o):Yx h' z TI TO i1 i2 l1 l2 xs ys i:=by
 obtain⟨⟨f0,f1,a,b⟩,hI,⟨c,d,hO⟩,h1,h2,t1,t2⟩:=st;exact⟨⟨f0,f1,k _ _ a,b⟩,k _ _ hI,⟨c,d,k _ _ hO⟩,h1.at λo q=>k _ _ q,h2.at λo q=>k _ _ q,xJ t1 λo q=>k _ _ q,xJ t2 λo q=>k _ _ q⟩
end L2
namespace HT
open PySem PyProof.Rows
section
variable {prog:Program}{w:World}{A:Around}{E:Value->Shared->Prop}{s:Shared}
def Ai (n:Nat):Builtin.Slice.slicePlaces ((n:Int) - 1) (-1) (-1)=n:=by
 unfold Builtin.Slice.slicePlaces;have h1:¬((-1:Int) > 0):=by omega
 simp only [h1,if_false,Int.neg_neg,Int.ediv_one]
 split <;> omega
def Ga (xs:Array Value):((List.range xs.size).filterMap λ(k:Nat)=>xs[((xs.size:Int) - 1+(k:Int) * (-1)).toNat]?).toArray=xs.toList.reverse.toArray:=by
 have e:=PySem.W.krv_pick xs;unfold slicePick at e;rw [PySem.W.krv_bounds,PySem.W.krv_sliceRange,List.filterMap_map] at e;rw [<-e];have key:∀l:List Nat,(∀k∈l,k < xs.size)->(l.filterMap λ(k:Nat)=>xs[((xs.size:Int) - 1+(k:Int) * (-1)).toNat]?)=l.filterMap ((λx=>xs[x]?) ∘ λk=>xs.size - 1 - k):=by
  intro l
  induction l with
  | nil=>exact λ_=>rfl
  | cons k r ih =>
   intro h;have hk:=h k cJ;have e2:((xs.size:Int) - 1+(k:Int) * (-1)).toNat=xs.size - 1 - k:=by omega
   rw [rD,rD,ih λm hm=>h m (cW _ hm),e2];rfl
 rw [key _ λk hk=>jD.mp hk]
def pC {sl:Addr}{n:Nat}{u:Tok}{Q:Int×Int×Nat->Shared->Prop}(hs:s.heap.IsSliceOf sl .none .none (.int (-1) u))(h:Q ((n:Int) - 1,-1,n) s):wpAny (model prog w) A (Builtin.Slice.sliceApplied (.ref sl) (pure (n:Int))) Q E s:=by
 obtain⟨os,DM,Hz,IS⟩:=id hs;unfold Builtin.Slice.sliceApplied Builtin.Slice.sliceFields;refine aq (aq (ir DM IS (x:=.none) rfl (aq (ir DM IS (x:=.none) rfl (aq (ir DM IS (x:=.int (-1) u) rfl (aH ?_)))))));refine aq (slicePart_int ?_);show wpAny _ _ (if ((-1:Int) == 0)=true then _ else _) _ _ s;rw [aw nofun];refine aq (slicePart_none (aq (slicePart_none (aq (aH ?_)))));show wpAny _ _ (pure ((n:Int) - 1,(-1:Int),Builtin.Slice.slicePlaces ((n:Int) - 1) (-1) (-1))) _ _ s;rw [Ai];exact aH h
def ot {t sl:Addr}{items:Array Value}{u:Tok}{Q:Value->Shared->Prop}(ht:IsTup s.heap t items)(hs:s.heap.IsSliceOf sl .none .none (.int (-1) u))
  (h:Q (.ref s.heap.objs.size) { s with heap:=s.heap.push { cls:=.type "tuple",data:=.seq items.toList.reverse.toArray } })(hsz:items.size<=sizeLine):wpAny (model prog w) A (getItem (.ref t) (.ref sl)) Q E s:=by
 have oh:sizeOk (.seq items.toList.reverse.toArray):=by
  show items.toList.reverse.toArray.size<=sizeLine;rw [bO,qS,iG];exact hsz
 obtain⟨os,DM,Hz,IS⟩:=id hs;have RJ:s.TypeIs (.ref sl) "slice" := ⟨os,DM,Hz⟩;unfold getItem
 try with_reducible refine iW ?_
 first | refine aq (aH ?_) | skip
 refine aq (wpAny_sequenceKey ht.typeIs nofun ?_);refine aq (nr (name:=Str.ofString "__getitem__") ht.typeIs ny
  (j7 ny ht.typeIs entry_tuple_getitem ?_ (args_tuple_getitem _ _)))
 show wpAny _ _ (Builtin.Tuple.tupleItemsOf (.ref t) >>= _) _ _ s;refine aq (tupleItemsOf_ ht ?_);refine aq (jY RJ ?_);rw [ax nofun];refine aq (pC hs ?_);show wpAny _ _ (if (((items.size:Int) - 1 == 0) && ((-1:Int) == 1) && (items.size == items.size))=true then _ else _) _ _ s;rw [aw (by simp),Ga]
 first
  | exact aq (m:=Builtin.Tuple.tupleExact _) (gI (aH ⟨_,rfl,aH h⟩) oh)
  | exact aq (m:=Builtin.Tuple.tupleExact _) (gI (aq (aH (aH ⟨_,rfl,aH h⟩))) oh)
  | exact aq (aq (m:=Builtin.Tuple.tupleExact _) (gI (aH (aH ⟨_,rfl,aH h⟩)) oh))
  | exact aq (aq (m:=Builtin.Tuple.tupleExact _) (gI (aH ⟨_,rfl,aH h⟩) oh))
end
end HT
namespace L2
open PySem PySem.Spec PyProof.Rows
theorem Paired.FZ {α β:Type}{F:α->β->Prop}:∀{a:List α}{c:List β},Paired F a c->Paired F a.reverse c.reverse
 | _,_,.nil=>.nil
 | _,_,.cons h t=>by rw [mC,mC];exact gX (Paired.FZ t) h
def U0 (K:a8)(te:TE):TE:=λσ H Q=>te σ H λx H1=>∃a xs,x=.ref a/\aR K H1 a xs/\∀p,H1 p=none->Q (.ref p) (upd H1 p (.tup xs.reverse))
def MZ {X:Cx}{e:Expr}{te:TE}{p2 pos pu pc:Pos}(he:PE X e te):PE X (.Subscript e (.Slice none none (some (.UnaryOp .USub (.Constant (.int 1) 0 pc) pu)) p2) pos) (U0 X.K te):=by
 intro ag s σ H Q I h;refine Subscript_ (cX (he ag s σ H _ I h) λv s1 bx=>?_);obtain⟨x,H1,I1,r1,q1⟩:=bx;obtain⟨a,xs,rfl,hx,q⟩:=q1;cases (show v=Value.ref a from r1);refine wpAny_Slice ?_;rw [evalPart_none];refine aH (aH ?_);have hs:PO X (some (.UnaryOp .USub (.Constant (.int 1) 0 pc) pu)) _:=fc (l7 ja ar);refine cX (hs ag s1 σ H1 (λl H'=>l=some (-1)/\H'=H1) I1 ⟨_,rfl,_,rfl,rfl,rfl⟩) λvst s2 bx=>?_;obtain⟨l,H2,I2,pl,q2⟩:=bx;obtain⟨rfl,rfl⟩:=q2;cases pl with
 | int i u =>
  have I3:Inv X ag σ H2 { s2 with heap:=s2.heap.push { cls:=.type "slice",data:=.fields #[.none,.none,.int (-1) u] } }:=I2.kept (t':=s2.toks) λb ob q=>bH _ q;obtain⟨aN,r,ht,hz⟩:=I3.tuple hx;have br:=r.length;refine tail_any (T := "tuple") (ops:=[.ref a,.ref s2.heap.objs.size]) ht.typeIs ny.lookup ?_ (by with_unfolding_all rfl);refine HT.ot ht (Heap.IsSliceOf.new ..) ?_ (by rw [bO];omega);refine⟨.ref _,_,I3.laid (t':=s2.toks) (o:=.tup xs.reverse) (λb ob q=>bH _ q) (aD _) ?_,rfl,q _ (I3.bZ.fresh (aD _))⟩;exact⟨by rw [qS];exact hz,aN.reverse,Paired.FZ r,IsTup.new _ _⟩
open PySem
section
variable {prog:Program}{w:World}{A:Around}{E:Value->Shared->Prop}{s:Shared}
end
structure ZTn (h:Heap)(z TI TO i1 i2 l1 l2:Addr) (i:Nat):Prop where
 hz:∃f0 f1,ID h z f0 f1 TI TO/\(f0=.none\/∃T:Nat,f0=rawInt T)
 hI:IsPair h TI (.ref i1) (.ref i2)
 hO:∃a b,IsPair h TO a b
 h1:h.IsTupleIter i1 l1 i
 h2:h.IsTupleIter i2 l2 i
end L2
namespace HT
open PySem PySem.Spec PyProof.Rows
section
variable {prog:Program}{w:World}{A:Around}{E:Value->Shared->Prop}{s:Shared}
def ox {t sl:Addr}{items:Array Value}{vl vu:Value}{lo hi:Option Int}{Q:Value->Shared->Prop}(ht:IsTup s.heap t items)(hs:s.heap.IsSliceOf sl vl vu .none)(pl:IsPart vl lo)(pu:IsPart vu hi)
  (hw:fA items.size 0 lo=0/\fA items.size items.size hi=items.size)(h:Q (.ref t) s):wpAny (model prog w) A (getItem (.ref t) (.ref sl)) Q E s:=by
 obtain⟨os,DM,Hz,IS⟩:=id hs;have RJ:s.TypeIs (.ref sl) "slice" := ⟨os,DM,Hz⟩;unfold getItem
 try with_reducible refine iW ?_
 first | refine aq (aH ?_) | skip
 refine aq (wpAny_sequenceKey ht.typeIs nofun ?_);refine aq (nr (name:=Str.ofString "__getitem__") ht.typeIs ny
  (j7 ny ht.typeIs entry_tuple_getitem ?_ (args_tuple_getitem _ _)))
 show wpAny _ _ (Builtin.Tuple.tupleItemsOf (.ref t) >>= _) _ _ s;refine aq (tupleItemsOf_ ht ?_);refine aq (jY RJ ?_);rw [ax nofun];refine aq (jj hs pl pu ?_);have Wr:(((fA items.size 0 lo:Nat):Int) == 0 && (1:Int) == 1 && (fA items.size items.size hi - fA items.size 0 lo) == items.size)=true:=by
  rw [hw.1,hw.2];simp
 show wpAny _ _ (if (((fA items.size 0 lo:Nat):Int) == 0 && (1:Int) == 1 && (fA items.size items.size hi - fA items.size 0 lo) == items.size)=true then _ else _) _ _ s;rw [ax Wr];refine aq ?_;unfold Builtin.Tuple.tupleIsExact;refine aq (jY ht.typeIs (aH ?_));rw [ax nofun];refine aq (il ?_);exact aH ⟨_,rfl,aH h⟩
end
end HT
namespace L2
open PySem PySem.Spec PyProof.Rows
def Qe (K:a8):V->Option Int->Option Int->Hp->VK->Prop:=λx lo hi H Q=>∃a xs,x=.ref a/\aR K H a xs/\∀p H',aB H H'->aR K H' p (gq xs lo hi)->Q (.ref p) H'
def qJ {X:Cx}:L_ X (Qe X.K):=by
 intro ag s σ H x v vl vu lo hi sl Q I rx hs pl pu h;obtain⟨a,xs,rfl,hx,q⟩:=h;by_cases hw:HT.fA xs.length 0 lo=0/\HT.fA xs.length xs.length hi=xs.length
 .have ec:gq xs lo hi=xs:=by
   unfold gq;rw [hw.1,hw.2,q_,mq,cP]
  cases rx;obtain⟨aN,r,ht,hz⟩:=I.tuple hx;have br:aN.toArray.size=xs.length:=by rw [bO];exact r.length.symm
  refine⟨"tuple",_,ny.lookup,ht.typeIs,?_⟩;exact HT.ox ht hs pl pu (by rw [br];exact hw) ⟨.ref a,H,I,rfl,q a H (λ_ _ h=>h) (by rw [ec];exact hx)⟩
 exact Mx ag s σ H _ v vl vu lo hi sl Q I rx hs pl pu ⟨a,xs,rfl,hx,hw,λp hp=>q p _ (af hp _) (aR.of ae)⟩
def Qj (K:a8):R2:=λx y H Q=>∃a b xs ys,x=.ref a/\y=.ref b/\aR K H a xs/\aR K H b ys/\xs.length+ys.length<=sizeLine/\∀p H',aB H H'->aR K H' p (xs++ys)->Q (.ref p) H'
def wK {X:Cx}:kJ X (binaryOp .Add) (Qj X.K):=by
 intro ag s σ H x y v u Q I rx ry h;obtain⟨a,b,xs,ys,rfl,rfl,ha,hb,hz,q⟩:=h;by_cases hx:xs=[]
 .cases rx;cases ry;obtain⟨aN,r1,p1,_⟩:=I.tuple ha;obtain⟨d7,r2,p2,_⟩:=I.tuple hb;have e1:aN=[]:=r1.qM.mpr hx;obtain⟨⟨cls,dd,data,sl⟩,ho,hc,n,hd⟩:=id p1;obtain⟨⟨Yb,Pe,data2,Tc⟩,AO,NP,n2,hd2⟩:=id p2;simp only at hc hd NP hd2;subst hc hd NP hd2;exact concat_meets ⟨_,ho,rfl⟩ ⟨_,AO,rfl⟩ noFill_tuple_add seq_tuple_add zF zG (zI _ _)
   (tuple_addW0 a b aN.toArray d7.toArray n n2 dd Pe sl Tc (by simp [e1])) ⟨ho,AO,.ref b,H,I,rfl,q b H (λ_ _ h=>h) (by rw [hx];exact hb)⟩
 refine JM ag s σ H _ _ v u Q I rx ry ⟨a,b,xs,ys,rfl,rfl,ha,hb,hx,hz,λe=>q a H (λ_ _ h=>h) (by rw [e,iu];exact ha),λ_ p hp=>q p _ (af hp _) (aR.of ae)⟩
theorem xM:∀{zs:List Str}{aN:List Value},aY (zs.map V.str) aN->StrsAre aN zs
 | [],[],_=>.nil
 | z::r,u::aN,h=>by
  cases h with
  | cons a b =>
   obtain⟨t,rfl⟩:=a;exact .cons z t (xM b)
theorem uy:∀{aN:List Value}{zs:List Str},StrsAre aN zs->aY (zs.map V.str) aN
 | _,_,.nil=>.nil
 | _,_,.cons y t h=>.cons ⟨t,rfl⟩ (uy h)
theorem lt_trans:∀a b c:List Nat,ltCps b a=false->ltCps c b=false->ltCps c a=false
 | [],b,[],_,_=>ltCps.eq_1
 | [],b,_::_,_,_=>ltCps.eq_3 _ _
 | x::r,[],c,h,_=>by rw [ltCps.eq_2] at h;cases h
 | x::r,y::t,[],_,k=>by rw [ltCps.eq_2] at k;cases k
 | x::r,y::t,z::u,h,k=>by
  rw [ltCps.eq_4,Bool.or_eq_false_iff,decide_eq_false_iff_not] at h k ⊢;refine⟨∅,?_⟩;by_cases e:z=x
  .have e1:y=x:=by omega
   subst e;subst e1;have h2:=h.2;have k2:=k.2;rw [o5,j5] at h2 k2 ⊢;exact lt_trans r t u h2 k2
  rw [kN.mpr e,q9]
def F4 (x:Str):Nat->Str
 | 0=>Str.empty
 | 1=>x
 | _=>x++x
def JL {X:Cx}:kJ X (binaryOp .Mult) (λa b H Q=>∃x n,a=.str x/\b=.int ((n:Nat):Int)/\n<=2/\x.length=1/\Q (.str (F4 x n)) H):=by
 intro ag s σ H a b v u Q I ra rb h;obtain⟨x,n,rfl,rfl,hn,hx,q⟩:=h;obtain⟨t,rfl⟩:=ra;obtain⟨t2,rfl⟩:=rb
 match n,hn,q with
 | 0,_,q=>exact PySem.P.mul_str_none nofun nofun ⟨.str Str.empty,H,I.tok _,⟨_,rfl⟩,q⟩
 | 1,_,q =>
  refine PySem.P.mul_str nofun (λ_ h=>by simp at h) (λ_ h=>by simp at h) ?_;rw [aw nofun,ax (by rfl)];exact⟨.str x,H,I,⟨_,rfl⟩,q⟩
 | 2,_,q =>
  refine PySem.P.mul_str nofun (λ_ _=>by rw [hx];decide) (λ_ _=>by rw [hx];decide) ?_;rw [aw nofun,aw (by rw [hx];decide)];have le:(Str.mk (#[]++x.cps++x.cps)).length<=sizeLine:=by
   show (#[]++x.cps++x.cps).size<=sizeLine;rw [Array.empty_append,Array.size_append];have:x.cps.size=1:=hx;rw [this];decide
  refine⟨le,⟨.str (x++x),H,I.tok _,⟨s.toks,?_⟩,q⟩⟩;show Value.str ⟨#[]++x.cps++x.cps⟩ _=Value.str ⟨x.cps++x.cps⟩ _;rw [Array.empty_append]
section
variable {prog:Program}{w:World}{A:Around}{E:Value->Shared->Prop}{s:Shared}
end
def PJ (K:a8)(te:TE):TE:=λσ H Q=>te σ H λx H1=>∃a xs,x=.ref a/\aG K H1 a xs/\∀p,H1 p=none->Q (.ref p) (upd H1 p (.lst xs.reverse))
def JE {X:Cx}{e:Expr}{te:TE}{p2 pos pu pc:Pos}(he:PE X e te):PE X (.Subscript e (.Slice none none (some (.UnaryOp .USub (.Constant (.int 1) 0 pc) pu)) p2) pos) (PJ X.K te):=by
 intro ag s σ H Q I h;refine Subscript_ (cX (he ag s σ H _ I h) λv s1 bx=>?_);obtain⟨x,H1,I1,r1,q1⟩:=bx;obtain⟨a,xs,rfl,hx,q⟩:=q1;cases (show v=Value.ref a from r1);refine wpAny_Slice ?_;rw [evalPart_none];refine aH (aH ?_);have hs:PO X (some (.UnaryOp .USub (.Constant (.int 1) 0 pc) pu)) _:=fc (l7 ja ar);refine cX (hs ag s1 σ H1 (λl H'=>l=some (-1)/\H'=H1) I1 ⟨_,rfl,_,rfl,rfl,rfl⟩) λvst s2 bx=>?_;obtain⟨l,H2,I2,pl,q2⟩:=bx;obtain⟨rfl,rfl⟩:=q2;cases pl with
 | int i u =>
  have I3:Inv X ag σ H2 { s2 with heap:=s2.heap.push { cls:=.type "slice",data:=.fields #[.none,.none,.int (-1) u] } }:=I2.kept (t':=s2.toks) λb ob q=>bH _ q;obtain⟨aN,r,ht,hz⟩:=I3.list hx;have br:=r.length;refine tail_any (T := "list") (ops:=[.ref a,.ref s2.heap.objs.size]) ht.isList.typeIs slot_list_getitem.lookup ?_ (by with_unfolding_all rfl);refine wpAny_getItem_list_slice ht.isList (Heap.IsSliceOf.new ..) .none .none (.int (-1) u) (by simp) ?_ (by rw [bO];omega);rw [PySem.W.krv_pick];refine⟨.ref _,_,I3.laid (t':=s2.toks) (o:=.lst xs.reverse) (λb ob q=>bH _ q) (aD _) ?_,rfl,q _ (I3.bZ.fresh (aD _))⟩;exact⟨by rw [qS];exact hz,aN.reverse,0,Paired.FZ r,cA _ rfl⟩
open PySem PySem.W PyProof.Rows
section
variable {n:Nat}{lt:Nat->Nat->Bool}{cmp:Nat->Nat->(Bool->Shared->Prop)->Shared->Prop}{s:Shared}
structure KO (n:Nat)(lt:Nat->Nat->Bool):Prop where
 trans:∀a b c,a < n->b < n->c < n->lt b a=false->lt c b=false->lt c a=false
 Yv:∀a b,a < n->b < n->lt a b=true->lt b a=false
structure Pm (n:Nat)(p:Array Nat):Prop where
 pm:p.Perm (List.range n).toArray
theorem Pm.size {p:Array Nat}(h:Pm n p):p.size=n:=by
 have:=h.pm.size_eq;simpa using this
def Pm.Lr {p:Array Nat}(h:Pm n p){i:Nat}(hi:i < n):p.getD i 0 < n:=by
 have hs:=h.size;have e:p.getD i 0=p[i]'∅:=by simp [Array.getD,hs,hi]
 rw [e];have:p[i]'∅∈(List.range n).toArray:=h.pm.mem_iff.mp (Array.getElem_mem _);simpa using this
abbrev at_ (p:Array Nat) (i:Nat):Nat:=p.getD i 0
def OC (lt:Nat->Nat->Bool)(p:Array Nat) (k:Nat):Prop:=∀i j,i<=j->j < k->lt (at_ p j) (at_ p i)=false
def OF (lt:Nat->Nat->Bool)(p:Array Nat) (k:Nat):Prop:=∀i j,i<=j->j < k->lt (at_ p i) (at_ p j)=false
def KO.ZR (o:KO n lt){a:Nat}(h:a < n):lt a a=false:=by
 cases e:lt a a with
 | false=>rfl
 | true=>rw [<-o.Yv a a h h e,e]
def OC.more {p:Array Nat}{m:Nat}(o:KO n lt)(P:Pm n p)(h:OC lt p m)(hm:1<=m)(hn:m < n)(c:lt (at_ p m) (at_ p (m - 1))=false):OC lt p (m+1):=by
 intro i j Kg hj;by_cases e:j=m
 .subst e;by_cases e2:i=j
  .subst e2;exact o.ZR (P.Lr hn)
  exact o.trans _ (at_ p (j - 1)) _ (P.Lr ∅) (P.Lr ∅) (P.Lr hn) (h i (j - 1) ∅ ∅) c
 exact h i j Kg ∅
def OF.more {p:Array Nat}{m:Nat}(o:KO n lt)(P:Pm n p)(h:OF lt p m)(hm:1<=m)(hn:m < n)(c:lt (at_ p (m - 1)) (at_ p m)=false):OF lt p (m+1):=by
 intro i j Kg hj;by_cases e:j=m
 .subst e;by_cases e2:i=j
  .subst e2;exact o.ZR (P.Lr hn)
  exact o.trans _ (at_ p (j - 1)) _ (P.Lr hn) (P.Lr ∅) (P.Lr ∅) c (h i (j - 1) ∅ ∅)
 exact h i j Kg ∅
end
def Inv.QN {X:Cx}{ag:List (Addr×Obj)}{σ:St}{H:Hp}{s:Shared}{h':Heap}{a:Addr}{o:HO}{t':Nat}(I:Inv X ag σ H s)(k:∀b u,b≠X.env.locals->s.heap.get? b=some u->h'.get? b=some u)
  (ns:∀m,s.heap.Ns X.env.locals m->h'.Ns X.env.locals m)(hp:s.heap.get? a=none)(hn:H a=none)(new:cM X.prog X.w (upd H a o) h' a o):Inv X ag σ (upd H a o) { s with heap:=h',toks:=t' }:=by
 have ne:∀b u,s.heap.get? b=some u->b≠a:=λb u q z=>by rw [z,hp] at q;cases q
 refine I.step (g':=s.gens) (d':=s.drawn) (ch:=[]) (λ_ z=>nomatch z) (λb u hb _ _ e _=>k b u hb e) (λb u hb _ _ e _=>⟨u.slots,k b u hb e⟩) (λb u _ e n=>by rw [ai (ne b u e)];exact n)
  (λb u _ e=>?_) (λb xs q=>by rw [ai (az q hn)];exact q) (λb u xs q=>by rw [ai (az q hn)];exact q) (λb ps q=>⟨#[],by rw [ai (az q hn),q];simp⟩) ns (λb u e=>?_) I.bare
 .by_cases hb:b=X.env.locals
  .obtain⟨m,hm,_⟩:=I.loc;obtain⟨o',_,_,Hq,_⟩:=ns m hm;exact⟨o',by rw [hb];exact Hq⟩
  exact⟨u,k b u hb e⟩
 by_cases hb:b=a
 .subst hb;rw [ae] at e;cases e;exact new
 rw [ai hb] at e;refine(I.bZ b u e).kX (λc v hc q=>k c v ?_ q) (λc q=>by rw [ai (az q hn)];exact q) λc xs q=>by rw [ai (az q hn)];exact q
 rintro rfl;rcases hc with rfl | hc
 .rw [I.free] at e;cases e
 rw [I.free] at hc;cases hc
def Gr {P:Program}{w:World}{H:Hp}{h:Heap}{a:Addr}{o:HO}(x:cM P w H h a o):∃u,h.get? a=some u:=by
 cases o with
 | lst xs=>obtain⟨_,_,_,_,e⟩:=x;exact⟨_,e⟩
 | tup xs=>obtain⟨_,_,_,ob,e,_⟩:=x;exact⟨_,e⟩
 | dK kvs=>obtain⟨_,_,_,_,o,_,_,e,_⟩:=x;exact⟨_,e⟩
 | dT kvs=>obtain⟨_,_,_,_,o,_,_,e,_⟩:=x;exact⟨_,e⟩
 | set S n=>obtain⟨o,_,_,_,e,_⟩:=x;exact⟨_,e⟩
 | ins C dx fs=>obtain⟨_,_,_,e,_⟩:=x;exact⟨_,e⟩
 | own y=>obtain⟨_,e⟩:=x;exact⟨_,e⟩
 | xd fs=>obtain⟨_,⟨_,_,_,e,_⟩,_⟩:=x;exact⟨_,e⟩
 | C8 lo hi=>obtain⟨_,_,_,e⟩:=x;exact⟨_,e⟩
 | kx ob u=>obtain⟨e,_⟩:=x;exact⟨_,e⟩
 | t_ ps=>exact⟨_,(show h.get? a=some _ from x)⟩
 | met f y=>exact⟨_,(show h.get? a=some _ from x)⟩
 | ext φ=>obtain⟨_,⟨_,e⟩,_⟩:=x;exact⟨_,e⟩
open PySem PySem.Spec PyProof.Rows PySem.W
section
variable {P:Program}{w:World}{A:Around}{E:Value->Shared->Prop}{s:Shared}
def He {f c' c d:Addr}{q:Str}{params:Arguments}{scope:Scope}{cl:List (Str×Addr)}{pm gG:Value}{p1 p2 p3:Pos}{xs xh:Str}{vs:List (aL×Value)}{z:Str}{t:Tok}{u:Value}{oc:Obj}{Q:Value->Shared->Prop}
  (Ra:A.depth < recursionLimit)(nl:s.heap.NoLimit)(hf:s.heap.get? f=some (kla_obj "<lambda>" q params (.Subscript (.Name xs p1) (.Name xh p2) p3) scope cl pm c' gG))(hc:s.heap.CodeRec (.ref c') q)
  (hb:∀us:List Value,us.length=1->bindArgs (kla_fn "<lambda>" q params (.Subscript (.Name xs p1) (.Name xh p2) p3) scope cl pm (.ref c') gG) ⟨us,[]⟩=pure ([xh].zip us))
  (hk:scope.kind=.function)(Xa:scope.isCoroutine=false)(NK:scope.isGenerator=false)(WT:∀x∈scope.names,x.2≠.cell)(hh:scope.names.lookup xh=some .local)(hs:scope.names.lookup xs=some .free)
  (m_:cl.lookup xs=some c)(ho:s.heap.get? c=some oc)(zx:oc.data=.cell (some (.ref d)))(dd:s.heap.DictOf (bh P w) d vs)(hv:valueAt vs (Sum.inr z)=some u)
  (d1:(xs == ("__debug__":Str))=false)(d2:(xh == ("__debug__":Str))=false)(d3:(xs == ("__classdict__":Str))=false)
  (h:∀h' tk,(∀b o,s.heap.get? b=some o->h'.get? b=some o)->Q u { s with heap:=h',toks:=tk }):wpAny (model P w) A (call (.ref f) [.str z t]) Q E s:=by
 refine kO (kla_callFunE Ra hf rfl Xa NK rfl hc ?_);rw [hb [.str z t] rfl];refine aH (wpAny_newFunctionEnv WT (λx hx=>?_) (λh₁ xx Kb=>⟨nl.fresh _ Kb,?_⟩) hk)
 .have:x=(xh,Value.str z t):=by simpa using hx
  rw [this];exact hh
 show codeAny _ _ (.expr (.Subscript (.Name xs p1) (.Name xh p2) p3) (envX q scope s.heap.objs.size f (.ref c') cl)) _ _;have k1:∀b o,s.heap.get? b=some o->h₁.get? b=some o:=λb o e=>Kb.extBut b o (bE (bu e)) (bH _ e);refine kla_codeExpr (BG PySem.F.slot_dict_getitem.lookup (λ_ _=>rfl) ?_);refine wpAny_Name (wpAny_loadName_free hk hs m_ ⟨oc,k1 _ _ ho,zx⟩ ?_ d3) d1;refine wpAny_Name (vF hk hh xx (show ([(xh,Value.str z t)]:List (Str×Value)).reverse.lookup xh=some (.str z t) by simp [List.lookup]) ?_) d2;have dd1:h₁.DictOf (bh P w) d vs:=by
  obtain⟨o,es,ep,g,r⟩:=dd;exact⟨o,es,ep,k1 _ _ g,r⟩
 refine⟨dd1.typeIs,wpAny_getItem_of (l_ (k:=Sum.inr z) ⟨t,rfl⟩) dd1.mapOf hv ?_⟩;exact h h₁ _ k1
end
section
variable {X:Cx}{params:Arguments}{body:Expr}{scope:Scope}{pos:Pos}{c T:Addr}
abbrev iZ (X:Cx)(params:Arguments)(body:Expr)(scope:Scope)(cl:List (Str×Addr))(c':Addr)(gG:Value):Obj:=kla_obj "<lambda>" (X.env.qual ++ "<lambda>") params body scope cl ((X.mg "__name__").getD .none) c' gG
def PX (X:Cx)(params:Arguments)(body:Expr)(scope:Scope)(pos:Pos)(T:Addr):TE:=λσ H Q=>Tab T pos (X.env.qual ++ "<lambda>") H /\
 ∀f c' gG cl H',KR X.env scope cl->cY T H H'->Tab T pos (X.env.qual ++ "<lambda>") H'->H f=none->H' f=some (pH f (iZ X params body scope cl c' gG))->H' c'=some (kj c' (X.env.qual ++ "<lambda>"))->Q (.ref f) H'
def JG (sS:X.env.code=.ref c)(hC:codeHdIn X.K c T=true)(hB:tY X.mg X.base)(om:∀y,(y,NameKind.free)∈scope.names->X.env.scope.names.lookup y=some .cell)(Hy:defaultsOf params X.env=([],[]):=by rfl):PE X (.Lambda params body scope pos) (PX X params body scope pos T):=by
 intro ag s σ H Q I h;obtain⟨⟨ps,hT,ht,HG⟩,q⟩:=h;refine kla_eval Hy ?_;obtain⟨cl,m_⟩:=xj (env:=X.env) (scope:=scope) λy hy=>I.ok.has y (.inl (om y hy));have NU:s.heap.get? T=some (tabObj ps):=(show cM X.prog X.w H s.heap T (.t_ ps) from I.bZ T _ hT);have hg:=I.mod.glob.keeps I.bk;have C:=codeHd_of_K I.wX hC;obtain⟨bm,ob,b1,b2,b3,b4,b5,b6,b7⟩:=hB;have Yq:=I.bk _ _ b4;have VS:bm≠T:=λz=>by
  have:=(I.bs _ _ b4).2;rw [z,hT] at this;cases this
 have VP:mainGlobals≠T:=λz=>by
  obtain⟨o,es,ep,e,d,_⟩:=hg;rw [z,NU] at e;cases e;cases d
 have RN:s.heap.BuiltinsAt X.mg T:=⟨bm,ob,b1,b2,b3,VS,Yq,b5,b6,b7⟩;have IH:∀b v,H b=some v->b < s.heap.objs.size:=λb v e=>I.bZ.lt e;rcases HG with Rk | ⟨c',hf,mS⟩
 .refine kla_makeFunction m_.eq I.ok.glob hg sS C NU ht Rk VP RN λc' gG h' tk hx NL je Hn Q6=>?_;have hcr:∃oc,h'.get? c'=some oc:=by
   obtain⟨c2,oc,vs,t,e,zx,_⟩:=Hn;cases e;exact⟨oc,zx⟩
  have sQ:h'.objs.size > s.heap.objs.size:=rC NL je;have keep:∀b o,b≠T->s.heap.get? b=some o->(h'.push (iZ X params body scope cl c' gG)).get? b=some o:=λb o n e=>bH _ (hx b o n e)
  let H':Hp:=upd (upd (upd H T (.t_ (ps++#[rawInt pos.line,rawInt pos.col,.ref c']))) c' (kj c' (X.env.qual ++ "<lambda>"))) h'.objs.size (pH h'.objs.size (iZ X params body scope cl c' gG))
  have AE:∀b v,H b=some v->b≠c'/\b≠h'.objs.size:=λb v e=>⟨bE (gu (IH b v e) NL),bE (jB (IH b v e) sQ)⟩;have VR:c'≠h'.objs.size:=bE je;have QB:=AE T _ hT;have eT:H' T=some (.t_ (ps++#[rawInt pos.line,rawInt pos.col,.ref c'])):=by
   show upd (upd (upd H T _) c' _) h'.objs.size _ T=_;rw [ai QB.2,ai QB.1,ae]
  have ec:H' c'=some (kj c' (X.env.qual ++ "<lambda>")):=by
   show upd (upd (upd H T _) c' _) h'.objs.size _ c'=_;rw [ai VR,ae]
  have ef:H' h'.objs.size=some (pH h'.objs.size (iZ X params body scope cl c' gG)):=ae;have eo:∀b,b≠T->b≠c'->b≠h'.objs.size->H' b=H b:=λb n1 n2 n3=>by
   show upd (upd (upd H T _) c' _) h'.objs.size _ b=_;rw [ai n3,ai n2,ai n1]
  have sT:cY T H H':=λb o n e=>by rw [eo b n (AE b o e).1 (AE b o e).2];exact e
  have I2:Inv X ag σ H' { s with heap:=h'.push (iZ X params body scope cl c' gG),toks:=tk }:=by
   refine I.call (g':=s.gens) (t':=tk) (d':=s.drawn) (ch:=[]) ⟨λb o e n _ _=>keep b o (λz=>by rw [z,hT] at n;cases n) e,λb o e n _ _=>⟨o.slots,keep b o (λz=>by rw [z,hT] at n;cases n) e⟩,λb o e n _=>?_,λb o e _=>?_,λb xs e=>?_,λb o u e=>?_,λb ER e=>?_⟩ (λb v e=>?_) I.bare (λb hb=>nomatch hb)
   .have lb:=bu e;rw [eo b (λz=>by rw [z,hT] at n;cases n) (bE (gu lb NL)) (bE (jB lb sQ))];exact n
   .by_cases z:b=T
    .exact⟨_,by rw [z];exact bH _ Q6⟩
    exact⟨o,keep b o z e⟩
   .exact sT b _ (λz=>by rw [z,hT] at e;cases e) e
   .exact sT b _ (λz=>by rw [z,hT] at e;cases e) e
   .by_cases z:b=T
    .subst z;rw [hT] at e;cases e;exact⟨_,eT⟩
    exact⟨#[],by rw [Array.append_empty];exact sT b _ z e⟩
   by_cases z1:b=h'.objs.size
   .subst z1;rw [ef] at e;cases e;exact qO (cA _ rfl)
   by_cases z2:b=c'
   .subst z2;rw [ec] at e;cases e;refine yX ?_;obtain⟨c2,oc,vs,t,e',zx,hd,hv⟩:=Hn;cases e';exact⟨_,oc,vs,t,rfl,bH _ zx,hd,hv⟩
   by_cases z3:b=T
   .subst z3;rw [eT] at e;cases e;exact bH _ Q6
   rw [eo b z3 z2 z1] at e;refine(I.bZ b v e).kX (λd o DR e'=>?_) (λd e'=>sT d _ (λz=>by rw [z,hT] at e';cases e') e') λd ys e'=>sT d _ (λz=>by rw [z,hT] at e';cases e') e';rcases DR with rfl | DR
   .exact keep d o z3 e'
   exact keep d o (λz=>by rw [z,hT] at DR;cases DR) e'
  have fresh:H h'.objs.size=none:=I.bZ.fresh (i8 sQ);exact⟨.ref h'.objs.size,H',I2,rfl,q _ c' gG cl H' m_ sT ⟨_,eT,by rw [vG];exact jE _ ht,.inr ⟨c',by rw [vG];exact codeAmong_snoc _ ht Rk,ec⟩⟩ fresh ef ec⟩
 refine kla_makeFunctionHit m_.eq I.ok.glob hg sS C NU ht hf RN λgG h' tk hk hsz=>?_;have keep:∀b o,s.heap.get? b=some o->(h'.push (iZ X params body scope cl c' gG)).get? b=some o:=λb o e=>bH _ (hk b o e);have fresh:H h'.objs.size=none:=I.bZ.fresh hsz;refine⟨.ref h'.objs.size,_,I.laid (a:=h'.objs.size) (o:=pH h'.objs.size (iZ X params body scope cl c' gG)) (t':=tk) keep hsz (qO (cA _ rfl)),rfl,?_⟩;refine q _ c' gG cl _ m_ (λb o _ e=>by rw [ai (az e fresh)];exact e) ⟨ps,by rw [ai (az hT fresh)];exact hT,ht,.inr ⟨c',hf,by rw [ai (az mS fresh)];exact mS⟩⟩ fresh ae (by rw [ai (az mS fresh)];exact mS)
end
theorem BI:∀{zs:List Str}{aN:List Value},aY (zs.map V.str) aN->∀(i:Nat)(v:Value),aN[i]?=some v->∃z t,zs[i]?=some z/\v=.str z t
 | [],[],_,i,v,h=>by simp at h
 | z::r,u::aN,h,i,v,hi=>by
  cases h with
  | cons a b =>
   cases i with
   | zero =>
    cases hi;obtain⟨t,e⟩:=(show ∃t,u=Value.str z t from a);exact⟨z,t,rfl,e⟩
   | succ i=>exact BI b i v hi
theorem uB:∀(ps:List (Str×Tok)),aY ((ps.map (·.1)).map V.str) (ps.map λp=>Value.str p.1 p.2)
 | []=>.nil
 | p::r=>.cons ⟨p.2,rfl⟩ (uB r)
theorem uC:∀{zs:List Str}{aN:List Value},aY (zs.map V.str) aN->∃ps:List (Str×Tok),ps.map (·.1)=zs/\aN=ps.map λp=>Value.str p.1 p.2
 | [],[],_=>⟨[],rfl,rfl⟩
 | z::r,u::aN,h=>by
  cases h with
  | cons a b =>
   obtain⟨t,e⟩:=(show ∃t,u=Value.str z t from a);obtain⟨ps,e1,e2⟩:=uC b;exact⟨(z,t)::ps,by rw [cO,e1],by rw [cO,e2,e]⟩
def Ak {α β:Type}{f:α->β}{l m:List β}(h:l.Perm m):∀ps:List α,m=ps.map f->∃qs:List α,l=qs.map f/\qs.Perm ps:=by
 induction h with
 | nil =>
  intro ps e;cases ps with
  | nil=>exact⟨[],rfl,.nil⟩
  | cons p r=>cases e
 | cons x h ih =>
  intro ps e;cases ps with
  | nil=>cases e
  | cons p r =>
   rw [cO] at e;injection e with e1 e2;obtain⟨qs,a,b⟩:=ih r e2;exact⟨p::qs,by rw [cO,a,e1],b.cons p⟩
 | swap x y l =>
  intro ps e
  match ps,e with
  | [],e=>cases e
  | [_],e=>cases e
  | p::p2::r,e =>
   rw [cO,cO] at e;injection e with e1 e2;injection e2 with e3 e4;exact⟨p2::p::r,by rw [cO,cO,e1,e3,e4],.swap p p2 r⟩
 | trans h1 h2 i1 i2 =>
  intro ps e;obtain⟨qs,a,b⟩:=i2 ps e;obtain⟨rs,c,d⟩:=i1 qs a;exact⟨rs,c,d.trans b⟩
def Gj {g:Str->Int}{ps:List (Str×Tok)}{out:List Value}(h:KskOut false ((ps.map (·.1)).map g) (ps.map λp=>Value.str p.1 p.2) out) :
  ∃qs:List (Str×Tok),out=qs.map (λp=>Value.str p.1 p.2)/\(qs.map (·.1)).Perm (ps.map (·.1))/\(qs.map (·.1)).Pairwise λx y=>g x<=g y:=by
 obtain⟨rs,h1,h2,h3⟩:=h;have ez:((ps.map (·.1)).map g).zip (ps.map λp=>Value.str p.1 p.2)=ps.map λp=>(g p.1,Value.str p.1 p.2):=by
  rw [iV,List.zip_map,List.zip_eq_zipWith]
  induction ps with
  | nil=>rfl
  | cons p r ih=>simp_all
 rw [ez] at h1;obtain⟨qs,q1,q2⟩:∃qs:List (Str×Tok),rs=qs.map (λp=>(g p.1,Value.str p.1 p.2))/\qs.Perm ps:=by
  exact Ak h1 ps rfl
 subst q1;refine⟨qs,by rw [h2,iV];rfl,q2.map _,?_⟩;rw [List.pairwise_map] at h3 ⊢;exact h3.imp λh=>by simpa using h
section
variable {X:Cx}{i:Nat}{xs xh:Str}{params:Arguments}{scope:Scope}{p pos AF kp p1 p2 p3:Pos}{e:Expr}{ta:TA}{c T:Addr}{k:Nat}
abbrev CC (xs xh:Str)(p1 p2 p3:Pos):Expr:=.Subscript (.Name xs p1) (.Name xh p2) p3
def Mm (X:Cx) (i:Nat)(AF:Pos)(T:Addr)(ta:TA):TE:=λσ H Q=>ta σ H λvs H1=>Tab T AF (X.env.qual ++ "<lambda>") H1/\∃(a:Addr) (zs:List Str)(d:Addr)(kvs:List (aL×V))(g:Str->Int),vs=[.ref a]/\aG X.K H1 a (zs.map V.str)/\zs.length < 64/\σ[i]?=some (some (.ref d))/\Rd H1 d (.dK kvs) /\
 (∀z∈zs,bf kvs (Sum.inr z)=some (.int (g z)))/\∀(l:Addr) (E_:List Str)(H':Hp),cY T H1 H'->Tab T AF (X.env.qual ++ "<lambda>") H'->H1 l=none->E_.Perm zs->E_.Pairwise (λx y=>g x<=g y)->H' l=some (.lst (E_.map V.str))->Q (.ref l) H'
def Gd (hr:fh (k+1) X.A)(sS:X.env.code=.ref c)(hC:codeHdIn X.K c T=true)(hB:tY X.mg X.base)(hg:Gl X "sorted")(hm:X.mg "sorted"=none)(ha:PA X [e] ta)
  (hN:X.N[i]?=some xs)(hx:X.env.scope.names.lookup xs=some .cell)(om:∀y,(y,NameKind.free)∈scope.names->X.env.scope.names.lookup y=some .cell)
  (hb:∀(q:Str)(cl:List (Str×Addr))(pm gG:Value)(c':Addr)(us:List Value),us.length=1->bindArgs (kla_fn "<lambda>" q params (CC xs xh p1 p2 p3) scope cl pm (.ref c') gG) ⟨us,[]⟩=pure ([xh].zip us))
  (hk:scope.kind=.function)(Xa:scope.isCoroutine=false)(NK:scope.isGenerator=false)(WT:∀x∈scope.names,x.2≠.cell)(hh:scope.names.lookup xh=some .local)(hs:scope.names.lookup xs=some .free)
  (d1:(xs == ("__debug__":Str))=false:=by decide)(d2:(xh == ("__debug__":Str))=false:=by decide)(d3:(xs == ("__classdict__":Str))=false:=by decide)
  (Hy:defaultsOf params X.env=([],[]):=by rfl)
  (he:backTo pos (starEach [e] X.env)=(false,eval e X.env)::backTo pos (starEach [] X.env):=by rfl)(hp:(backTo pos (starEach [e] X.env)).any (·.1)=false:=by rfl) :
  PE X (.Call (.Name "sorted" p) [e] [⟨some "key",.Lambda params (CC xs xh p1 p2 p3) scope AF,kp⟩] pos) (Mm X i AF T ta):=by
 intro ag s σ H Q I h;refine nq (iQ I hg hm boot_sorted ?_);refine callWith_kw (cX (ha pos ag s σ H _ I h) λus s1 bx=>?_) he hp rfl rfl;obtain⟨vs,H1,I1,r1,Ki,a,zs,d,kvs,g,ev,hq,Xs,hσ,hd,hv,q1⟩:=bx;subst ev;have low:=JG (X:=X) (params:=params) (body:=CC xs xh p1 p2 p3) (scope:=scope) (pos:=AF) (c:=c) (T:=T) sS hC hB om Hy ag s1 σ H1
  (λfv H2=>∃f c' gG cl,fv=.ref f/\KR X.env scope cl/\cY T H1 H2/\Tab T AF (X.env.qual ++ "<lambda>") H2/\H2 f=some (pH f (iZ X params (CC xs xh p1 p2 p3) scope cl c' gG))/\H2 c'=some (kj c' (X.env.qual ++ "<lambda>"))) I1
  ⟨Ki,λf c' gG cl H' a1 a2 a3 a4 a5 a6=>⟨f,c',gG,cl,rfl,a1,a2,a3,a5,a6⟩⟩
 refine kws_cons (cX low λu2 s2 bx=>?_);obtain⟨fv,H2,I2,r2,f,c',gG,cl,ef,m_,st,T8,hf,mS⟩:=bx;refine kws_nil ?_;subst ef;cases (show u2=Value.ref f from r2);obtain⟨u,rfl,rx⟩:=vals1 r1;cases (show u=Value.ref a from rx);obtain⟨pt,eT,_⟩:=id Ki;have hq2:aG X.K H2 a (zs.map V.str):=by
  rcases hq with (h | ⟨o,h⟩) | h
  .exact .inl (.inl (st _ _ (λz=>by rw [z,eT] at h;cases h) h))
  .exact .inl (.inr ⟨o,st _ _ (λz=>by rw [z,eT] at h;cases h) h⟩)
  exact .inr h
 have hd2:Rd H2 d (.dK kvs):=by
  rcases hd with h | ⟨o,h⟩
  .exact .inl (st _ _ (λz=>by rw [z,eT] at h;cases h) h)
  exact .inr ⟨o,st _ _ (λz=>by rw [z,eT] at h;cases h) h⟩
 obtain⟨aN,rv,pl,hz⟩:=I2.list hq2;obtain⟨pzs,ez,ei⟩:=uC rv;have zt:=pl.isList;obtain⟨oa,ga,ca,na,da⟩:=id zt;obtain⟨m,xx,lk⟩:=id I2.loc;have JW:∀b o,H2 b=some o->b≠X.env.locals:=λb o hb z=>by rw [z,I2.free] at hb;cases hb
 have Qv:d≠X.env.locals:=by
  rcases hd2 with h | ⟨o,h⟩
  .exact JW d _ h
  exact JW d _ h
 have neA:a≠X.env.locals:=λz=>by
  obtain⟨o,es,ep,ho,Cn,_⟩:=xx;rw [<-z,ga] at ho;cases ho;rw [da] at Cn;cases Cn
 obtain⟨ud,rd,lkd⟩:=lk i xs (.ref d) hN hσ (.inr (.inl hx));cases (show ud=Value.ref d from rd);obtain⟨cc,ecc,oc,Ri,Rh⟩:∃cc,X.env.cells.lookup xs=some cc/\s2.heap.IsCell cc (some (.ref d)):=by
  rcases lkd with ⟨l,_⟩ | ⟨_,c2,e2,h2⟩
  .have l':X.env.scope.names.lookup xs=some .local:=l;rw [hx] at l';cases l'
  exact⟨c2,e2,h2⟩
 obtain⟨cc',ecl⟩:=m_.all xs (wO hs);have e3:=m_.sub _ _ ecl;rw [ecc] at e3;cases e3;have OP:cc≠X.env.locals:=λz=>by
  obtain⟨o,es,ep,ho,Cn,_⟩:=xx;rw [<-z,Ri] at ho;cases ho;rw [Rh] at Cn;cases Cn
 obtain⟨gf,_⟩:=I2.bZ f _ hf;obtain⟨gc,_⟩:=I2.bZ c' _ mS;obtain⟨zl,DK,dvs,rel,dd⟩:=oE I2.bZ hd2;obtain⟨m0,F0⟩:=I2.fr;refine ksk_sorted (kz:=zs.map g) (f:=.ref f) (b:=false) (vs:=aN) (h₀:=Ji.sH s2.heap) (L:=X.env.locals) (m:=m) (news:=(a,oa)::Ji.ledger s2.heap X.env.locals a) (Ji.N3 xx) (Ji.yq neA ga) zt (by rw [av,<-rv.length,av]) (by rw [<-rv.length,av];exact Xs)
  (ksk_s1 _ _) (λx=>ksk_l1 _ _) (λx=>ksk_t1 f x) (λj v kk hj hkk oM tk own F N=>?_) λD h' tk out cnt F' N' lt' ko=>?_
 .obtain⟨z,t,Uh,rfl⟩:=BI rv j v hj;rw [bo,Uh] at hkk;cases hkk;have keep:∀b u,b≠X.env.locals->s2.heap.get? b=some u->oM.get? b=some u:=λb u nb hb=>by
   by_cases e:b=a
   .subst e;rw [ga] at hb;cases hb;exact(N (b,oa) (by simp)).1
   exact(N (b,u) (iH _ (cW _ (Ji.jQ.mpr ⟨nb,e,hb⟩)))).1
  have hvz:=hv z (b8 Uh);obtain⟨w',hw,Ae⟩:=jW.some_of (v:=.int (g z)) (o:=valueAt dvs (Sum.inr z)) (by rw [<-hvz];exact rel.val (Sum.inr z));obtain⟨tw,rfl⟩:=(show ∃t,w'=Value.int (g z) t from Ae);have Pe:oM.DictOf (bh X.prog X.w) d dvs:=by
   obtain⟨o,es,ep,g1,r⟩:=dd;exact⟨o,es,ep,keep _ _ Qv g1,r⟩
  have gc2:oM.CodeRec (.ref c') (X.env.qual ++ "<lambda>"):=by
   obtain⟨c2,oc2,Pz,t2,e2,zx,jf,OT⟩:=gc;cases e2;exact⟨_,oc2,Pz,t2,rfl,keep _ _ (JW c' _ mS) zx,jf,OT⟩
  have nl:oM.NoLimit:=I2.mod.nolimit.keeps λb o e=>keep b o (bE (gu (bu e) F0.above)) (I2.bk b o e);exact He (s:={ s2 with heap:=oM,toks:=tk }) (A:=X.A.in1.in1) hr.depth nl (keep _ _ (JW f _ hf) gf) gc2 (λus hl=>hb _ _ _ _ _ us hl) hk Xa NK WT hh hs ecl (keep _ _ OP Ri) Rh Pe hw d1 d2 d3
   λh3 tk3 ZL=>KskEnd.intro (F.kept ZL) (N.grown ZL) λp hp=>hp
 have keep:∀b u,b≠X.env.locals->s2.heap.get? b=some u->h'.get? b=some u:=λb u nb hb=>by
  by_cases e:b=a
  .subst e;rw [ga] at hb;cases hb;exact(N' (b,oa) (by simp)).1
  exact(N' (b,u) (cW _ (cW _ (Ji.jQ.mpr ⟨nb,e,hb⟩)))).1
 have hD:s2.heap.get? D=none:=by
  cases e:s2.heap.get? D with
  | none=>rfl
  | some o =>
   exfalso;have nD:D≠X.env.locals:=(N' (D,_) cJ).2.1;by_cases ea:D=a
   .have:=lt' (a,oa) cJ;rw [ea] at this;exact absurd this (jC _)
   exact absurd (lt' (D,o) (cW _ (Ji.jQ.mpr ⟨nD,ea,e⟩))) (jC _)
 have fD:H2 D=none:=by
  cases e:H2 D with
  | none=>rfl
  | some u =>
   obtain⟨ob,g⟩:=Gr (I2.bZ D u e);rw [hD] at g;cases g
 have fD1:H1 D=none:=by
  cases e:H1 D with
  | none=>rfl
  | some u =>
   by_cases z:D=T
   .obtain⟨pt2,eT2,_⟩:=T8;rw [z,eT2] at fD;cases fD
   rw [st _ _ z e] at fD;cases fD
 rw [ei,<-ez] at ko;obtain⟨qs,eo,pe,ps⟩:=Gj ko;rw [ez] at pe;have gD:=(N' (D,_) cJ).1;have lq:qs.length=zs.length:=by have:=pe.length_eq;rw [av] at this;exact this
 have sl:=af fD (.lst ((qs.map (·.1)).map V.str));refine⟨.ref D,_,I2.QN (t':=tk) keep (λm' hm=>?_) hD fD (show cM X.prog X.w _ _ _ (.lst ((qs.map (·.1)).map V.str)) from ⟨by rw [av,av];exact fits ∅,qs.map (λp=>Value.str p.1 p.2),cnt,uB qs,by rw [<-eo];simpa using gD⟩),rfl,q1 D (qs.map (·.1)) _ (λb o n hb=>sl _ _ (st b o n hb)) ?_ fD1 pe ps ae⟩
 .have:=F'.ns;have e:m'=m:=by
   obtain⟨o,es,ep,ho,Cn,_,hf⟩:=hm;obtain⟨o2,es2,LH,AO,Ry,_,Rt⟩:=xx;rw [ho] at AO;cases AO;rw [Cn] at Ry;cases Ry
   funext x
   rw [<-hf x,<-Rt x]
  rw [e];exact this
 obtain⟨Th,b1,b2,b3⟩:=T8;refine⟨Th,sl _ _ b1,b2,b3.imp id λbx=>?_⟩;obtain⟨c3,e3,g3⟩:=bx;exact⟨c3,e3,sl _ _ g3⟩
end
open PySem M11
def Bf {K:a8}{H:Hp}{p D d:Addr}{zs:List Str}{kvs:List (aL×V)}{g:G}{σ:St}{js:List (Nat×Str)}{Qp:Hp->Prop}(hσ:dO ["part"] js σ=[none,aM d])(hp:aR K H p (zs.map V.str))(hz:zs.length<=1000)
  (hd:Rd H d (.dK kvs))(hv:∀z,bf kvs (Sum.inr z)=(g z).map V.int)(ha:∀z∈zs,(g z).isSome=true)(hD:H D=none)(q:∀H2,aB H H2->H2 D=some (.lst ((zs.map λz=>(g z).getD 0).map V.int))->Qp H2) :
  ∃W:Nat->Nat->List V->St->Hp->Prop,(∃m,W 0 m [] (dO ["part"] js σ) (upd H D (.lst []))) /\
 ∀i m ys σ' H,W i m ys σ' H->((oJ K p).stop i H/\Qp H)\/((oJ K p).go i H/\∃m',m' < m/\∀x H',(oJ K p).mE i H x H'->dM 0 x σ' H' λσ2 H2=>hX σ2 H2 λb H3 =>
  if b=true then Bz (gE 1) (gE 0) σ2 H3 λy H4=>H4 D=some (.lst ys)/\ys.length < sizeLine/\W (i+1) m' (ys++[y]) σ2 (upd H4 D (.lst (ys++[y]))) else W (i+1) m' ys σ2 H3):=by
 refine gB (xs:=zs.map V.str) (λi ys σ2 H2=>ys=(((zs.take i).map λz=>(g z).getD 0).map V.int)/\(∃y0,σ2=[y0,aM d])/\aB H H2/\H2 D=some (.lst ys))
  ⟨rfl,⟨none,hσ⟩,af hD _,ae⟩ (λi ys σ2 H2 _ h=>h.2.2.1.tup hp) (λi x ys σ2 H2 ex h=>?_) (λys σ2 H2 h=>?_)
 .obtain⟨rfl,⟨y0,rfl⟩,sm,hd2⟩:=h;rw [bo] at ex;obtain⟨z,ez,rfl⟩:=cg.mp ex;have li:=(bj.mp ez).1;obtain⟨n,en⟩:=lX.mp (ha z (b8 ez));have hg:bX H2 d (.str z) (some (.int n)):=by
   have:=bX.r (k:=Sum.inr z) (gT.Rd.same hd sm);rw [hv,en] at this;exact this
  refine goN (yE ?_);refine⟨_,rfl,_,rfl,d,_,rfl,hg,hd2,bF (by rw [av,av,dD];omega),?_,⟨_,rfl⟩,?_,ae⟩
  .rw [cQ,ez,bG,bG];show _=_++[V.int ((g z).getD 0)];rw [en];rfl
  intro b o hb;rw [ai (λz=>by rw [z,hD] at hb;cases hb)];exact sm b o hb
 obtain⟨rfl,_,sm,hd2⟩:=h;rw [av,cP] at hd2;exact q H2 sm hd2
end L2
namespace gT
open PySem L2 M11
section
def rS (K:a8):Sp:=λvs H Q _=>∃(d r:Addr)(kvs:List (aL×V))(g:G)(ru:au),vs=[.ref d,.ref r]/\Rd H d (.dK kvs)/\(∀z,bf kvs (Sum.inr z)=(g z).map V.int)/\CJ K H r ru/\ru.2.length<=8/\(∀z∈ru.2,(g z).isSome=true)/\∀H',aB H H'->Q (.int (aT g ru)) H'
def zU:aI ["sizes","rule"] ["sizes","rule"] (ay pD):=iT rfl rfl rfl rfl nofun
def yk (F:iz K "rule_size" "rule_size" pD f fd)(T:Txt mg):bR P w K mg base fY 1 f fd ["sizes","rule"] (rS K):=by
 refine F.ok zU (λvs H Q E h=>?_) (λeK A outer s H vs Q E hr h=>?_)
 .obtain⟨d,r,kvs,g,ru,rfl,_⟩:=h;rfl
 obtain⟨d,r,kvs,g,ru,rfl,hd,hv,⟨p,v1,v2⟩,h8,al,q⟩:=h;have hu:=fX hr;refine⟨_,ak (aQ (aZ fZ ar (aF (u_ rfl) rfl T.sum PyProof.Rows.boot_sum (ab (ba ["part"] [(0,"sizes")] rfl (fI (aP bq (pv 1) ar (λ_ _=>rfl))) (a9 rfl rfl) nofun rfl nofun
   (λ_ _ _ _ _=>ao (i:=0) (show (["part","sizes"]:List Str).Nodup by decide +kernel) rfl (bB rfl)) (λ_ _ _ _ _=>bQ) (λ_ _ _ _ _=>eI hu (pv 1) (pv 0) (λ_ _=>rfl))) ah)))),?_⟩
 dsimp only [Bd];refine⟨_,rfl,r,_,_,_,rfl,rfl,v1,rfl,p,rfl,⟨_,v2⟩,λD hD=>Bf (g:=g) rfl v2 ∅ hd hv al hD λH2 s2 e2=>?_⟩;refine⟨D,_,rfl,aG.of e2,_,_,rfl,rfl,?_⟩;exact q H2 s2
end
end gT
namespace M11
open PySem
def xu.at_ {aa:List au}{bz:List (Str×Nat)}(h:xu aa bz):∀(i:Nat)(x:Str) (k:Nat),bz[i]?=some (x,k)->∃bD,aa[k]?=some (x,bD)/\∀p∈bD,p∈(bz.take i).map (·.1):=by
 induction h with
 | nil=>intro i x k e;simp at e
 | @snoc bz k2 ru h e n p ih =>
  intro i x k ei;by_cases hi:i < bz.length
  .rw [qd hi] at ei;obtain⟨bD,a,b⟩:=ih i x k ei;exact⟨bD,a,λq hq=>by rw [qe (i8 hi)];exact b q hq⟩
  have li:=(bj.mp ei).1;rw [bp,d_] at li;have e2:i=bz.length:=by omega
  subst e2;rw [nv (aD _),Nat.sub_self] at ei;cases ei;exact⟨ru.2,e,λq hq=>by rw [List.take_left'];exact p q hq;rfl⟩
end M11
namespace gT
open PySem L2 M11
section
def tL {H:Hp}{p D d:Addr}{zs:List Str}{kvs:List (aL×V)}{σ:St}{js:List (Nat×Str)}{Qp:Hp->Prop}(hσ:dO ["part"] js σ=[none,aM d])(hp:aR K H p (zs.map V.str))(hz:zs.length<=1000)
  (hd:H d=some (.dK kvs))(ha:∀z∈zs,(Sum.inr z:aL)∈kvs.map (·.1))(hD:H D=none)(q:∀ys H2,ys.length=zs.length->aB H H2->H2 D=some (.lst ys)->Qp H2) :
  ∃W:Nat->Nat->List V->St->Hp->Prop,(∃m,W 0 m [] (dO ["part"] js σ) (upd H D (.lst []))) /\
 ∀i m ys σ' H,W i m ys σ' H->((oJ K p).stop i H/\Qp H)\/((oJ K p).go i H/\∃m',m' < m/\∀x H',(oJ K p).mE i H x H'->dM 0 x σ' H' λσ2 H2=>hX σ2 H2 λb H3 =>
  if b=true then Bz (gE 1) (gE 0) σ2 H3 λy H4=>H4 D=some (.lst ys)/\ys.length < sizeLine/\W (i+1) m' (ys++[y]) σ2 (upd H4 D (.lst (ys++[y]))) else W (i+1) m' ys σ2 H3):=by
 refine gB (xs:=zs.map V.str) (λi ys σ2 H2=>ys.length=i/\(∃y0,σ2=[y0,aM d])/\aB H H2/\H2 D=some (.lst ys))
  ⟨rfl,⟨none,hσ⟩,af hD _,ae⟩ (λi ys σ2 H2 _ h=>h.2.2.1.tup hp) (λi x ys σ2 H2 ex h=>?_) (λys σ2 H2 h=>?_)
 .obtain⟨rfl,⟨y0,rfl⟩,sm,hd2⟩:=h;rw [bo] at ex;obtain⟨z,ez,rfl⟩:=cg.mp ex;have li:=(bj.mp ez).1;obtain⟨v,ev⟩:=lX.mp ((dQ kvs (Sum.inr z)).mpr (ha z (b8 ez)));have hg:bX H2 d (.str z) (some v):=by
   have:=bX.k (k:=Sum.inr z) (sm _ _ hd);rw [ev] at this;exact this
  refine goN (yE ?_);refine⟨_,rfl,_,rfl,d,_,rfl,hg,hd2,bF ∅,by rw [bp];rfl,⟨_,rfl⟩,?_,ae⟩;intro b o hb;rw [ai (λz=>by rw [z,hD] at hb;cases hb)];exact sm b o hb
 obtain⟨e,_,sm,hd2⟩:=h;rw [av] at e;exact q ys H2 e sm hd2
def uG (K:a8):Sp:=λvs H Q _=>∃(R D:Addr)(rs ts:List Addr)(aa:List au)(bz:List (Str×Nat)),vs=[.ref R,.ref D]/\aG K H R (rs.map V.ref)/\bJ K H rs aa/\aa.length<=1000/\(∀ru∈aa,ru.2.length<=8)/\aG K H D (ts.map V.ref)/\pV K H ts bz/\xu aa bz/\bz.length<=1000 /\
 ∀(d:Addr)(kvs:List (aL×V))(H':Hp),H d=none->aB H H'->H' d=some (.dK kvs)->kvs.map (·.1)=(bz.map (·.1)).map Sum.inr->Q (.ref d) H'
def lL:aI ["rules","empties","trees","name","number"] ["rules","empties"] (ay sq):=iT rfl rfl rfl rfl nofun
def Ax (F:iz K "empty_by_name" "empty_by_name" sq f fd)(T:Txt mg):bR P w K mg base fY 1 f fd ["rules","empties"] (uG K):=by
 refine F.ok lL (λvs H Q E h=>?_) (λeK A outer s H vs Q E hr h=>?_)
 .obtain⟨R,D,rs,ts,aa,bz,rfl,_⟩:=h;rfl
 obtain⟨R,D,rs,ts,aa,bz,rfl,hR,cT,br,h8,hD,hev,Ru,DO,q⟩:=h;have hu:=fX hr;refine⟨_,aj (aC (i:=2) lL.nd rfl (Or.inr rfl) gQ)
  (aj (bK b9 rfl (aX (pv 1)) (ff (n:=2) K rfl (aA (ao (i:=3) lL.nd rfl (bB rfl)) (aA (ao (i:=4) lL.nd rfl (bB rfl)) bV)))
   (ak (iC hu (pv 2) (pv 3) (bS (ab (pv 4) (ab (aV eY rfl T.tup qc (ab (ba ["part"] [(2,"trees")] rfl (fI (aP bq (aP bT (pv 0) (pv 4) (λ_ _=>rfl)) ar (λ_ _=>rfl))) (a9 rfl rfl) nofun rfl nofun
    (λ_ _ _ _ _=>ao (i:=0) (show (["part","trees"]:List Str).Nodup by decide +kernel) rfl (bB rfl)) (λ_ _ _ _ _=>bQ) (λ_ _ _ _ _=>eI hu (pv 1) (pv 0) (λ_ _=>rfl))) ah)) ah))) rfl)))
  (ak (aQ (pv 2)))),?_⟩
 nofun
 refine λd zB=>?_;have s1:=af zB (.dK []);have e1:upd H d (.dK []) d=some (.dK []):=ae;generalize upd H d (.dK [])=H1 at s1 e1;refine goN ?_
 ac_rfl
 have lt:=a_ hev;have ll:=a_ cT;have nd:=Ru.nd
 let qF:pU:=λi σ H3=>∃(kvs:List (aL×V))(y3 y4:Option V),σ=[aM R,aM D,aM d,y3,y4]/\aB H H3/\H3 d=some (.dK kvs)/\kvs.map (·.1)=((bz.take i).map (·.1)).map Sum.inr
 refine⟨_,rfl,D,rfl,⟨_,s1.seq hD⟩,cR (xs:=ts.map V.ref) qF ⟨[],_,_,rfl,s1,e1,rfl⟩ ?_ ?_ ?_⟩
 .rintro i σ H3 _ ⟨kvs,y3,y4,rfl,s3,_⟩;exact s3.seq hD
 .rintro i x σ H3 ex ⟨kvs,y3,y4,rfl,s3,ed,ek⟩
  ac_nf0
  rw [bo] at ex;obtain⟨t,et,rfl⟩:=cg.mp ex;have li:=(bj.mp et).1;obtain⟨e,ee⟩:∃e,bz[i]?=some e:=⟨bz[i]'∅,b_ ∅⟩;obtain⟨t',et',vt⟩:=Paired.at_ hev i e ee;rw [et] at et';cases et';obtain⟨x,k⟩:=e;obtain⟨bD,hk,Z5⟩:=Ru.at_ i x k ee;obtain⟨r,er,p,v1,v2⟩:=Paired.at_ cT k _ hk;have Bi:lS (rs.map V.ref) (k:Int)=some (.ref r):=cf (by rw [bo,er];rfl);have Z6:bD.length<=8:=h8 _ (b8 hk);refine⟨t,_,rfl,s3.tup vt,rfl,_,_,rfl,_,_,rfl,rfl,?_⟩;refine⟨_,rfl,_,rfl,_,rfl,R,_,_,_,rfl,rfl,s3.seq hR,Bi,r,_,_,_,rfl,rfl,s3.tup v1,rfl,p,rfl,⟨_,s3.tup v2⟩,λD2 i5=>tL (zs:=bD) rfl (s3.tup v2) ∅ ed (λz hz=>by rw [ek];exact cN.mpr (Z5 z hz)) i5 λys H4 ly s4 e4=>?_⟩;refine⟨D2,ys,rfl,.inl ⟨aG.of e4,λt2 N2=>⟨oK,λui D_=>?_⟩⟩⟩;have k5:=(af N2 (.tup ys)).trans (af D_ (.tup [.int (k:Int),.ref t2]));generalize upd (upd H4 t2 (.tup ys)) ui (.tup [.int (k:Int),.ref t2])=H5 at k5;have ed5:=k5 _ _ (s4 _ _ ed);have lkv:kvs.length=i:=by
   have:=congrArg List.length ek;rw [av,av,av,dD] at this;omega
  have nx:x∉(bz.take i).map (·.1):=λz=>by
   obtain⟨e2,m2,q2⟩:=cy.mp z;obtain⟨j,hj⟩:=ix m2;rw [List.getElem?_take] at hj
   split at hj
   .rename_i hji
    have a1:(bz.map (·.1))[j]?=some x:=by rw [bo,hj];exact congrArg some q2
    have a2:(bz.map (·.1))[i]?=some x:=by rw [bo,ee];rfl
    have:=(List.getElem?_inj (by rw [av];omega) nd).mp (a1.trans a2.symm);omega
   cases hj
  refine⟨_,rfl,_,rfl,d,_,rfl,.inl ⟨kvs,Sum.inr x,ed5,rfl,bF ∅,rfl⟩,?_⟩;refine⟨_,_,_,rfl,λb o hb=>?_,ae,?_⟩
  .rw [ai (λz=>by rw [z,zB] at hb;cases hb)];exact k5 _ _ (s4 _ _ (s3 b o hb))
  rw [iB (by rw [ek];exact λz=>nx (cN.mp z)),ek,cQ,ee,bG,bG];rfl
 rintro σ H3 ⟨kvs,y3,y4,rfl,s3,ed,ek⟩;rw [av,lt,cP] at ek;exact⟨_,rfl,q d kvs H3 zB s3 ed ek⟩
end
end gT
namespace M11
open PySem
def Le (g' g:G):Prop:=∀z n,g z=some n->∃m,g' z=some m/\m<=n
def yJ {g:G}{ru:au}(f:cU bl g ru=true):lJ g ru=true/\∀n,g ru.1=some n->aT g ru < n:=by
 unfold cU at f;rw [kT] at f;refine⟨f.1,λn e=>?_⟩;have:=f.2;rw [e] at this;have:(!(some n:Option Int).isSome || bl (aT g ru) n)=true:=this
 simpa [bl] using this
def le_step {g:G}{ru:au}(f:cU bl g ru=true):Le (eG g ru.1 (aT g ru)) g:=λz n e=>by
 unfold eG;by_cases c:z=ru.1
 .rw [ax c];subst c;exact⟨_,rfl,Int.le_of_lt ((yJ f).2 n e)⟩
 rw [aw c];exact⟨n,e,oN _⟩
theorem Fl {g g':G}(h:Le g' g):∀ps:List Str,(∀p∈ps,(g p).isSome=true)->(∀p∈ps,(g' p).isSome=true)/\(ps.map λp=>(g' p).getD 0).sum<=(ps.map λp=>(g p).getD 0).sum
 | [],_=>⟨λp hp=>(by cases hp),oN _⟩
 | p::r,a=>by
  obtain⟨h1,h2⟩:=Fl h r λq hq=>a q (cW _ hq);obtain⟨n,en⟩:=lX.mp (a p cJ);obtain⟨m,em,lm⟩:=h p n en;refine⟨λq hq=>?_,?_⟩
  .rcases bY.mp hq with rfl | hq
   .rw [em];rfl
   exact h1 q hq
  rw [cO,cO,kQ,kQ,en,em];show m+_<=n+_;omega
def vm {g:G}{ru:au}:lJ g ru=true↔∀p∈ru.2,(g p).isSome=true:=by
 unfold lJ;rw [gr]
def size_le {g g':G}{ru:au}(h:Le g' g)(a:lJ g ru=true):lJ g' ru=true/\aT g' ru<=aT g ru:=by
 obtain⟨h1,h2⟩:=Fl h ru.2 (vm.mp a);exact⟨vm.mpr h1,by unfold aT;omega⟩
def Pj (aa:List au) (hs:List Str)(g:G):Prop:=∀h n,g h=some n->h∉hs\/∃ru∈aa,ru.1=h/\lJ g ru=true/\aT g ru<=n
def Fb {aa:List au}{hs:List Str}(g:G)(ru:au)(j:Pj aa hs g)(m:ru∈aa)(f:cU bl g ru=true):Pj aa hs (eG g ru.1 (aT g ru)):=λh n e=>by
 have le:=le_step f;by_cases c:h=ru.1
 .have e2:n=aT g ru:=by
   unfold eG at e;rw [ax c] at e;exact(iw e).symm
  obtain⟨a1,a2⟩:=size_le le (yJ f).1;exact .inr ⟨ru,m,c.symm,a1,∅⟩
 have e2:g h=some n:=by
  unfold eG at e;rw [aw c] at e;exact e
 rcases j h n e2 with h1 | ⟨IJ,m2,q2,a2,l2⟩
 .exact .inl h1
 obtain⟨b1,b2⟩:=size_le le a2;exact .inr ⟨IJ,m2,q2,b1,∅⟩
def DB {aa:List au}{hs:List Str}{g0 g:G}(j0:Pj aa hs g0)(st:eF bl aa g0 g)(se:i6 bl aa g){h:Str}{n:Int}(hh:h∈hs)(e:g h=some n):∃ru∈aa,ru.1=h/\lJ g ru=true/\aT g ru=n:=by
 have j:Pj aa hs g:=eF.keep (J:=Pj aa hs) (λg ru j m f=>Fb g ru j m f) st j0;rcases j h n e with z | ⟨ru,m,q,a,l⟩
 .exact absurd hh z
 refine⟨ru,m,q,a,?_⟩;have f:=se ru m;unfold cU at f;rw [a,q,e] at f;have f:(true && (!(some n:Option Int).isSome || bl (aT g ru) n))=false:=f
 have f2:¬aT g ru < n:=by simpa [bl] using f
 omega
theorem Cd {g:G}(nn:NN g):∀(ps:List Str)(p:Str) (m:Int),p∈ps->g p=some m->m<=(ps.map λp=>(g p).getD 0).sum
 | q::r,p,m,hp,e=>by
  rw [cO,kQ];have h1:=jF g nn r;rcases bY.mp hp with rfl | hp
  .rw [e];show m<=m+_;omega
  have h2:=Cd nn r p m hp e;have h3:0<=(g q).getD 0:=by
   cases eq:g q with
   | none=>exact oN _
   | some n=>exact nn q n eq
  omega
def Dh {g:G}(nn:NN g){ru:au}{p:Str}{m:Int}(hp:p∈ru.2)(e:g p=some m):m < aT g ru:=by
 have:=Cd nn ru.2 p m hp e;unfold aT;omega
theorem Bv:∀(a7 ps bI:List Str),(∀z∈bI,z∉a7)->∀z∈tZ a7 bI ps,z∉a7
 | _,[],bI,h=>h
 | a7,p::r,bI,h=>by
  show ∀z∈tZ a7 (addW a7 bI p) r,z∉a7;refine Bv a7 r _ ?_;unfold addW
  split
  .exact h
  rename_i hp
  unfold ig
  split
  .exact h
  intro z hz;rcases cq.mp hz with hz | hz
  .exact h z hz
  rw [bC.mp hz];exact hp
def v7 {g:Str->Int}{zs:List Str}(h:zs.Pairwise λx y=>g x<=g y){i:Nat}{x p:Str}(e:zs[i]?=some x)(hp:p∈zs)(l:g p < g x):p∈zs.take i:=by
 obtain⟨j,ej⟩:=ix hp;obtain⟨li,ei⟩:=bj.mp e;obtain⟨lj,ej2⟩:=bj.mp ej;have hji:j < i:=by
  rcases Nat.lt_trichotomy j i with h1 | h1 | h1
  .exact h1
  .subst h1;rw [e] at ej;cases ej;omega
  have:=List.pairwise_iff_getElem.mp h i j li lj h1;rw [ei,ej2] at this;omega
 rw [List.mem_iff_getElem?];exact⟨j,by rw [List.getElem?_take,ax hji];exact ej⟩
end M11
namespace gT
open PySem L2 M11
def UR (aa:List au):Pj aa (hd aa) (zy aa):=λh n e=>by
 unfold zy at e;by_cases c:h∈tZ (hd aa) [] (aa.flatMap (·.2))
 .exact .inl (Bv _ _ [] (λz hz=>by cases hz) h c)
 rw [aw c] at e;cases e
def nn0 (aa:List au):NN (zy aa):=λh n e=>by
 unfold zy at e;by_cases c:h∈tZ (hd aa) [] (aa.flatMap (·.2))
 .rw [ax c] at e;cases e;exact oN _
 rw [aw c] at e;cases e
def Nb {aa:List au}{g:G}(st:eF M11.bl aa (zy aa) g):NN g:=eF.keep (J:=NN) (λg ru j m f=>wL j ru) st (nn0 aa)
theorem vS (a7:List Str):∀(ps bI:List Str)(x:Str),(x∈bI\/(x∈ps/\x∉a7))->x∈tZ a7 bI ps
 | [],bI,x,h=>by
  rcases h with h | ⟨h,_⟩
  .exact h
  cases h
 | p::r,bI,x,h=>by
  show x∈tZ a7 (addW a7 bI p) r;apply vS a7 r;unfold addW;by_cases c:p∈a7
  .rw [ax c];rcases h with h | ⟨h,n⟩
   .exact .inl h
   rcases bY.mp h with z | z
   .exact absurd (z ▸ c) n
   exact .inr ⟨z,n⟩
  rw [aw c];rcases h with h | ⟨h,n⟩
  .exact .inl ((oI _ _ _).mpr (.inl h))
  rcases bY.mp h with z | z
  .exact .inl ((oI _ _ _).mpr (.inr z))
  exact .inr ⟨z,n⟩
def Ql:List Stmt->Pos
 | [_,_,_,.For _ (.Call _ _ [⟨_,.Lambda _ _ _ pos,_⟩] _) _ _ _,_]=>pos
 | _=>⟨0,0,0,0⟩
abbrev posB:Pos:=Ql (cw nX)
abbrev IL:Str := "least_by_part" ++ ".<locals>." ++ "<lambda>"
section
def pq (K:a8)(T1 T3:Addr):Sp:=λvs H Q _=>∃(R:Addr)(rs:List Addr)(aa:List au),vs=[.ref R]/\aG K H R (rs.map V.ref)/\bJ K H rs aa/\aa.length < 64/\(∀ru∈aa,ru.2.length<=8)/\(∀g,eF M11.bl aa (zy aa) g->i6 M11.bl aa g->∀h∈hd aa,∃n,g h=some n/\n<=60)/\Tab T1 sL.2.2.2 zu H/\Tab T3 posB IL H/\T1≠T3 /\
 ∀(d:Addr)(kvs:List (aL×V))(H':Hp),H d=none->mh T1 T3 H H'->Tab T1 sL.2.2.2 zu H'->Tab T3 posB IL H'->H' d=some (.dK kvs)->(∀z,z∈hd aa->(Sum.inr z:aL)∈kvs.map (·.1))->Q (.ref d) H'
structure LB (K:a8)(rs:List Addr)(aa:List au)(qP:List (aL×V))(ps:List (Str×Addr))(R dz dn T1 T3:Addr)(H5:Hp):Prop where
 hR:aG K H5 R (rs.map V.ref)
 cT:bJ K H5 rs aa
 nm:Jh ps (λn=>nums aa n aa.length) H5 dn
 rz:Rd H5 dz (.dK qP)
 t1:Tab T1 sL.2.2.2 zu H5
 t3:Tab T3 posB IL H5
theorem LB.same {rs:List Addr}{aa:List au}{qP:List (aL×V)}{ps:List (Str×Addr)}{R dz dn T1 T3:Addr}{H5 H6:Hp}(h:LB K rs aa qP ps R dz dn T1 T3 H5)(s:aB H5 H6):LB K rs aa qP ps R dz dn T1 T3 H6 :=
 ⟨s.seq h.hR,h.cT.same s,h.nm.same s,gT.Rd.same h.rz s,h.t1.same s,h.t3.same s⟩
def LB.Ll {rs:List Addr}{aa:List au}{qP:List (aL×V)}{ps:List (Str×Addr)}{R dz dn T1 T3 d:Addr}{H5 H6:Hp}{kv:List (aL×V)}(h:LB K rs aa qP ps R dz dn T1 T3 H5)(e:H5 d=some (.dK kv))(n1:dn≠d)(n2:dz≠d)(s:cY d H5 H6):LB K rs aa qP ps R dz dn T1 T3 H6:=by
 have tk:∀a xs,aR K H5 a xs->aR K H6 a xs:=λa xs z=>by
  rcases z with (z | ⟨u,z⟩) | z
  .exact .inl (.inl (s _ _ (λy=>by rw [y,e] at z;cases z) z))
  .exact .inl (.inr ⟨u,s _ _ (λy=>by rw [y,e] at z;cases z) z⟩)
  exact .inr z
 have tb:∀{T':Addr}{pos':Pos}{IK:Str},Tab T' pos' IK H5->Tab T' pos' IK H6:=λ{T' pos' IK} ⟨p,a,b,cc⟩=>⟨p,s _ _ (λy=>by rw [y,e] at a;cases a) a,b,cc.imp id λ⟨c',e1,e2⟩=>⟨c',e1,s _ _ (λy=>by rw [y,e] at e2;cases e2) e2⟩⟩;refine⟨?_,h.cT.keep tk,⟨s _ _ n1 h.nm.hd,h.nm.n1,h.nm.n2,λp hp=>s _ _ (λy=>by have a:=h.nm.lst p hp;rw [y,e] at a;cases a) (h.nm.lst p hp)⟩,?_,tb h.t1,tb h.t3⟩
 .rcases h.hR with (z | ⟨u,z⟩) | z
  .exact .inl (.inl (s _ _ (λy=>by rw [y,e] at z;cases z) z))
  .exact .inl (.inr ⟨u,s _ _ (λy=>by rw [y,e] at z;cases z) z⟩)
  exact .inr z
 rcases h.rz with z | ⟨u,z⟩
 .exact .inl (s _ _ n2 z)
 exact .inr ⟨u,s _ _ n2 z⟩
def LB.P8 {rs:List Addr}{aa:List au}{qP:List (aL×V)}{ps:List (Str×Addr)}{R dz dn T1 T3:Addr}{H5 H6:Hp}(h:LB K rs aa qP ps R dz dn T1 T3 H5)(nT:T1≠T3)(s:cY T3 H5 H6)(t:Tab T3 posB IL H6):LB K rs aa qP ps R dz dn T1 T3 H6:=by
 obtain⟨pt,eT,_⟩:=id h.t3;refine⟨B2 s h.t3 h.hR,h.cT.keep λ_ _ z=>Bw s h.t3 z,⟨s _ _ (λy=>by have a:=h.nm.hd;rw [y,eT] at a;cases a) h.nm.hd,h.nm.n1,h.nm.n2,λp hp=>s _ _ (λy=>by have a:=h.nm.lst p hp;rw [y,eT] at a;cases a) (h.nm.lst p hp)⟩,?_,Bx s h.t3 h.t1 nT,t⟩;rcases h.rz with z | ⟨u,z⟩
 .exact .inl (s _ _ (λy=>by rw [y,eT] at z;cases z) z)
 exact .inr ⟨u,s _ _ (λy=>by rw [y,eT] at z;cases z) z⟩
theorem pK:∀(hs:List Str)(bI:List (aL×V)) (as:List Str),bI.map (·.1)=as.map Sum.inr->(df (hs.map λh=>((Sum.inr h:aL),V.str h)) bI).map (·.1)=(M11.xi as hs).map Sum.inr
 | [],bI,as,e=>e
 | h::r,bI,as,e=>pK r (bL bI (Sum.inr h) (.str h)) (M11.ig as h) (gT.lB e h)
def iF:aI ["rules","numbers","trees","name","least","sizes"] ["rules"] (ay nX):=iT rfl rfl rfl rfl nofun
def Aw {T1 T3:Addr}(F:zh K "least_by_part" "least_by_part" nX f fd T3)(T:Txt mg)(hB:tY mg base)(hS:mg "sorted"=none)(GH:aE P w K mg base 3 "heads_of" ["rules"] (jG K))(GL:aE P w K mg base 3 "least_sizes" ["rules"] (qI K T1))(GN:aE P w K mg base 3 "numbers_by_name" ["rules"] (Fo K))(GZ:aE P w K mg base 3 "rule_size" ["sizes","rule"] (rS K)):bR P w K mg base fY 4 f fd ["rules"] (pq K T1 T3):=by
 refine F.ok iF (λvs H Q E h=>?_) (λc A outer s H vs Q E hC hr h=>?_)
 .obtain⟨R,rs,aa,rfl,_⟩:=h;rfl
 obtain⟨R,rs,aa,rfl,hR,cT,br,h8,Hu,Ki,Xd,nT,q⟩:=h;have hu:=fX hr;refine⟨_,aj (aC (i:=5) iF.nd rfl (Or.inr rfl) (bc GL hr rfl (ab (pv 0) ah)))
  (aj (aC (i:=1) iF.nd rfl (Or.inr rfl) (bc GN hr rfl (ab (pv 0) ah)))
  (aj (aC (i:=2) iF.nd rfl (Or.inr rfl) (aV (dP rfl) rfl T.Bc fO (ab (ba ["part"] [(1,"numbers")] rfl (Cb (pv 5)) (a9 rfl rfl) nofun rfl nofun
    (λ_ _ _ _ _=>ao (i:=0) (show (["part","numbers"]:List Str).Nodup by decide +kernel) rfl (bB rfl)) (λ_ _ _ _ _=>hU (dH (dX hu (pv 0) (pv 1)))) (λ_ _ _ _ _=>bS (ab (pv 0) (ab (pv 0) ah)))) ah)))
  (aj (bK b9 rfl (aX (Gd (i:=5) (T:=T3) hr rfl hC hB rfl hS (ab (bc GH hr rfl (ab (pv 0) ah)) ah) rfl rfl (λy hy=>by
    rcases bY.mp hy with h | h
    .cases h
    rcases bY.mp h with h | h
    .cases h;rfl
    cases h) (λq cl pm gG c' us hl=>match us,hl with | [_],_=>rfl) rfl rfl rfl nofun rfl rfl)) (ao (i:=3) iF.nd rfl (Or.inr rfl))
   (aj (jL (iy:=4) ["number"] [(5,"sizes"),(0,"rules"),(3,"name")] iF.nd rfl rfl rfl (aX (eI hu (pv 1) (pv 3) (λ_ _=>rfl))) (a9 rfl rfl) nofun rfl nofun
    (λ_ _ _ _ _=>ao (i:=0) (show (["number","sizes","rules","name"]:List Str).Nodup by decide +kernel) rfl (bB rfl)) (λ_ _ _ _ _=>hU (bw iO (bc GZ hr rfl (ab (pv 1) (ab (aP (Hg K) (pv 2) (pv 0) (λ_ _=>rfl)) ah))) (eI hu (pv 1) (pv 3) (λ_ _=>rfl)) (bW _))) (λ_ _ _ _ _=>pv 0))
   (ak (iC hu (pv 2) (pv 3) (bS (ab (aP bT (pv 4) ar (λ_ _=>rfl)) (ab (aV eY rfl T.tup qc (ab (ba ["part"] [(2,"trees")] rfl (fI (aP bq (aP bT (pv 0) (aP bT (pv 4) ar (λ_ _=>rfl)) (λ_ _=>rfl)) ar (λ_ _=>rfl))) (a9 rfl rfl) nofun rfl nofun
    (λ_ _ _ _ _=>ao (i:=0) (show (["part","trees"]:List Str).Nodup by decide +kernel) rfl (bB rfl)) (λ_ _ _ _ _=>bQ) (λ_ _ _ _ _=>eI hu (pv 1) (pv 0) (λ_ _=>rfl))) ah)) ah))) rfl))))
  (ak (aQ (pv 2)))))),?_⟩
 nofun
 refine⟨_,rfl,R,rs,aa,rfl,hR,cT,∅,h8,Ki,λdz qP Lj g H1 fz s1 t1 ez kz vz S_ Y6 lz=>?_⟩;refine goN ?_
 ac_rfl
 have hR1:=B2 s1 Ki hR;have Rf:=cT.keep λ_ _ z=>Bw s1 Ki z;have YZ:=Bx s1 Ki Xd (fq nT);refine⟨_,rfl,R,rs,aa,rfl,hR1,Rf,∅,λdn ps H2 fn s2 nm pk pf=>?_⟩;refine goN ?_
 ac_rfl
 have O6:=s2 _ _ ez;refine⟨_,rfl,dz,qP,rfl,O6,λo D hD=>?_⟩;have VJ:∀p∈ps,p.2≠dz:=λp hp z=>by
  have a:=nm.lst p hp;rw [z,O6] at a;cases a
 have ndz:dn≠dz:=λz=>by rw [z,ez] at fn;cases fn
 have nz1:T1≠dz:=λz=>by
  obtain⟨p,a,_⟩:=t1;rw [z,ez] at a;cases a
 have nz3:T3≠dz:=λz=>by
  obtain⟨p,a,_⟩:=YZ;rw [z,ez] at a;cases a
 have PF:∀{T':Addr}{pos':Pos}{IK:Str},T'≠dz->Tab T' pos' IK H2->Tab T' pos' IK (upd H2 dz (.kx o (.dK qP))):=λ{T' pos' IK} n ⟨p,a,b,cc⟩=>⟨p,by rw [ai n];exact a,b,cc.imp id λ⟨c',e1,e2⟩=>⟨c',e1,by rw [ai (λz=>by rw [z,O6] at e2;cases e2)];exact e2⟩⟩;have L3:LB K rs aa qP ps R dz dn T1 T3 (upd H2 dz (.kx o (.dK qP))):=by
  refine⟨?_,(Rf.same s2).keep λ_ _ z=>hZ O6 z,⟨by rw [ai ndz];exact nm.hd,nm.n1,nm.n2,λp hp=>by rw [ai (VJ p hp)];exact nm.lst p hp⟩,.inr ⟨o,ae⟩,PF nz1 (t1.same s2),PF nz3 (YZ.same s2)⟩;rcases s2.seq hR1 with (h | ⟨u,h⟩) | h
  .exact .inl (.inl (by rw [ai (λz=>by rw [z,O6] at h;cases h)];exact h))
  .exact .inl (.inr ⟨u,by rw [ai (λz=>by rw [z,O6] at h;cases h)];exact h⟩)
  exact .inr h
 have e3:upd H2 dz (.kx o (.dK qP)) dz=some (.kx o (.dK qP)):=ae;have CY:mh T1 T3 H (upd H2 dz (.kx o (.dK qP))):=λb u n1 n3 hb=>by
  rw [ai (λz=>by rw [z,fz] at hb;cases hb)];exact s2 _ _ (s1 b u n1 hb)
 generalize upd H2 dz (.kx o (.dK qP))=H3 at hD L3 e3 CY ⊢;have lkz:qP.length=Lj.length:=by
  have:=congrArg List.length kz;rwa [av,av] at this
 refine tP (λi ys σ2 H4=>∃ts:List Addr,ys=ts.map V.ref/\(∃y0,σ2=[y0,aM dn])/\aB H3 H4/\H4 D=some (.lst ys)/\ts.length<=i/\Paired (λt h=>aR K H4 t [.str h,.str h]) ts ((Lj.take i).filter λz=>!decide (z∈hd aa)))
  ⟨[],rfl,⟨none,rfl⟩,af hD _,ae,aD _,.nil⟩ (λi ys σ2 H4 _ h=>?_) (λi kv ys σ2 H4 ex h=>?_) (λys σ2 H4 h=>?_)
 .obtain⟨_,_,_,sm,_⟩:=h;exact sm _ _ e3
 .obtain⟨ts,rfl,⟨y0,rfl⟩,sm,e4,lts,pt⟩:=h;obtain⟨z,ezz,ekz⟩:∃z,Lj[i]?=some z/\kv.1=Sum.inr z:=by
   have a1:(qP.map (·.1))[i]?=some kv.1:=by rw [bo,ex];rfl
   rw [kz,bo] at a1;obtain⟨z,a2,a3⟩:=cg.mp a1;exact⟨z,a2,a3.symm⟩
  rw [ekz];have L4:=L3.same sm;have hin:(bf (ps.map jy) (Sum.inr z)).isSome=decide (z∈hd aa):=by
   rw [ng,dQ,decide_eq_true_iff,<-pk];rw [iV];constructor
   .intro h;obtain⟨p,hp,e⟩:=cy.mp h;exact cy.mpr ⟨p,hp,ml e⟩
   intro h;obtain⟨p,hp,e⟩:=cy.mp h;exact cy.mpr ⟨p,hp,congrArg Sum.inr e⟩
  refine goN ?_;refine⟨_,rfl,_,rfl,dn,_,rfl,bX.k (k:=Sum.inr z) L4.nm.hd,_,rfl,?_⟩;rw [hin];have HR:((Lj.take (i+1)).filter λz=>!decide (z∈hd aa))=((Lj.take i).filter λz=>!decide (z∈hd aa))++(if (!decide (z∈hd aa))=true then [z] else []):=by
   rw [cQ,ezz,o9]
   congr 1
   by_cases c:z∈hd aa <;> simp [c]
  refine cE (λcc=>?_) (λcc=>?_)
  .refine⟨_,rfl,_,rfl,oK,λt ht=>?_⟩;have k5:=af ht (.tup [kV (Sum.inr z),kV (Sum.inr z)]);have v5:aR K (upd H4 t (.tup [kV (Sum.inr z),kV (Sum.inr z)])) t [.str z,.str z]:=aR.of ae;generalize upd H4 t (.tup [kV (Sum.inr z),kV (Sum.inr z)])=H5 at k5 v5;have li:=(bj.mp ex).1;have e5:=k5 _ _ e4;refine⟨e5,bF (by rw [av];omega),ts++[t],by rw [bG];rfl,⟨_,rfl⟩,λb u hb=>?_,ae,by rw [bp,d_];omega,?_⟩
   .rw [ai (λz=>by rw [z,hD] at hb;cases hb)];exact k5 _ _ (sm b u hb)
   rw [HR,ax cc];exact gX (Paired.eJ pt λ_ _ z=>aW e5 (k5.tup z)) (aW e5 v5)
  refine⟨ts,rfl,⟨_,rfl⟩,sm,e4,∅,?_⟩;rw [HR,aw cc,iu];exact pt
 obtain⟨ts,rfl,_,s4,e4,lts,pt⟩:=h;rw [lkz,cP] at pt;have ZY:∀z,z∉hd aa->(g z).isSome=true->z∈Lj.filter λz=>!decide (z∈hd aa):=λz hz gz=>by
  refine lU.mpr ⟨?_,by simpa using hz⟩;have a1:(bf qP (Sum.inr z)).isSome=true:=by rw [vz,o8];exact gz
  rw [dQ,kz] at a1;exact cN.mp a1
 have lws:(Lj.filter λz=>!decide (z∈hd aa)).length<=20000:=dI (rH _ _) ∅;generalize Lj.filter (λz=>!decide (z∈hd aa))=ws at pt ZY lws;have kp:Paired (λt (kv:aL×V)=>aR K H4 t [kV kv.1,kv.2]) ts (ws.map λh=>((Sum.inr h:aL),V.str h)):=cu pt λ_ _ z=>z;refine⟨D,ts,_,rfl,e4,kp,λdt Cn=>?_⟩;have kt:∀z∈ws,(Sum.inr z:aL)∈(df (ws.map λh=>((Sum.inr h:aL),V.str h)) []).map (·.1):=λz hz=>by
  rw [pK ws [] [] rfl];exact cN.mpr ((hV ws [] z).mpr (.inr hz))
 have lkt:(df (ws.map λh=>((Sum.inr h:aL),V.str h)) []).length<=20000:=by
  have a:=congrArg List.length (pK ws [] [] rfl);rw [av,av] at a;have:=iE ws [];simp only [iX] at this;omega
 generalize df (ws.map λh=>((Sum.inr h:aL),V.str h)) []=QP at kt lkt;have s5:=s4.trans (af Cn (.dK QP));have e5:upd H4 dt (.dK QP) dt=some (.dK QP):=ae;have LF:H3 dt=none:=s4.free Cn;generalize upd H4 dt (.dK QP)=H5 at s5 e5;have L5:=L3.same s5;refine goN ?_
 ac_rfl
 refine⟨_,rfl,R,rs,aa,rfl,L5.hR,L5.cT,∅,λDH H6 fH s6 eH=>?_⟩;have L6:=L5.same s6;have J1:=iE (aa.map (·.1)) [];simp only [iX,av] at J1;have gz:∀z∈hd aa,∃n,g z=some n:=λz hz=>by
  obtain⟨n,e,_⟩:=Hu g S_ Y6 z hz;exact⟨n,e⟩
 refine⟨L6.t3,DH,hd aa,dz,qP,λz=>(g z).getD 0,rfl,aG.of eH,by unfold hd;omega,rfl,L6.rz,λz hz=>by obtain⟨n,e⟩:=gz z hz;rw [vz,e];show _=some (V.int ((g z).getD 0));rw [e];rfl,λl E_ H7 s7 t37 fl pe pw el=>?_⟩;have L7:=L6.P8 nT s7 t37;have VQ:dt≠T3:=λz=>by
  obtain⟨p,a,_⟩:=L5.t3;rw [<-z,e5] at a;cases a
 have e7:=s7 _ _ VQ (s6 _ _ e5);have Zv:dn≠dt:=λz=>by have a:=L3.nm.hd;rw [z,LF] at a;cases a
 have Zo:dz≠dt:=λz=>by rw [<-z,e3] at LF;cases LF
 have II:mh T1 T3 H H7:=λb u n1 n3 hb=>s7 _ _ n3 (s6 _ _ (s5 _ _ (CY b u n1 n3 hb)));have VN:l≠dt:=λz=>by rw [z,s6 _ _ e5] at fl;cases fl
 have nn:=Nb S_;have hlz:E_.length < 64:=by rw [pe.length_eq];unfold hd;omega
 have Ss:∀ru∈aa,∀p∈ru.2,(g p).isSome=true:=λru iS p hp=>by
  by_cases hh:p∈hd aa
  .obtain⟨n,e⟩:=gz p hh;rw [e];rfl
  have j0:∃n,zy aa p=some n:=⟨0,ax (vS _ _ [] p (.inr ⟨ro.mpr ⟨ru,iS,hp⟩,hh⟩))⟩;have:∃n,g p=some n:=eF.keep (J:=λg=>∃n,g p=some n) (λg ru ⟨n,e⟩ m f=>by obtain⟨k,a,_⟩:=le_step f p n e;exact⟨k,a⟩) S_ j0;obtain⟨n,e⟩:=this;rw [e];rfl
 have ll:=a_ cT
 let qF:pU:=λi σ H8=>∃(kvs:List (aL×V))(y3 y4:Option V),σ=[aM R,aM dn,aM dt,y3,y4,aM dz]/\cY dt H7 H8/\H8 dt=some (.dK kvs)/\kvs.length<=20000+i/\(∀z∈ws,(Sum.inr z:aL)∈kvs.map (·.1))/\(∀z∈E_.take i,(Sum.inr z:aL)∈kvs.map (·.1))
 refine⟨l,rfl,⟨_,aG.of el⟩,cR (xs:=E_.map V.str) qF ⟨QP,_,_,rfl,λ_ _ _ h=>h,e7,∅,kt,λz hz=>by cases hz⟩ ?_ ?_ ?_⟩
 .rintro i σ H8 _ ⟨kvs,y3,y4,rfl,s8,_⟩;exact aG.of (s8 _ _ VN el)
 .rintro i x σ H8 ex ⟨kvs,y3,y4,rfl,s8,e8,V5,V9,QO⟩
  ac_nf0
  rw [bo] at ex;obtain⟨z,Uc,rfl⟩:=cg.mp ex;have li:=(bj.mp Uc).1;have hz:z∈hd aa:=pe.mem_iff.mp (b8 Uc);obtain⟨n,XH⟩:=gz z hz;have L8:=L7.Ll e7 Zv Zo s8;obtain⟨p,hp,WN⟩:=cy.mp (show z∈ps.map (·.1) by rw [pk];exact hz);refine goN ?_
  ac_rfl
  have hgn:bX H8 dn (.str z) (some (.ref p.2)):=by
   have:=bX.k (k:=Sum.inr z) L8.nm.hd;rw [<-WN,g6 ps L8.nm.n1 p hp] at this;rw [WN] at this;exact this
  have TQ:=L8.nm.lst p hp;have TQ:H8 p.2=some (.lst ((nums aa z aa.length).map V.int)):=by rw [<-WN];exact TQ
  have numOf:∀(m:Nat) (v:Int),(nums aa z aa.length)[m]?=some v->∃(j:Nat)(ru:au),v=(j:Int)/\aa[j]?=some ru/\ru.1=z:=λm v e=>by
   unfold nums at e;rw [bo] at e;obtain⟨j,e1,rfl⟩:=cg.mp e;have hj:=(lU.mp (b8 e1)).2;have hj:(aa[j]?.map (·.1))=some z:=dA hj;obtain⟨ru,e2,e3⟩:=cg.mp hj;exact⟨j,ru,rfl,e2,e3⟩
  have aab:=yl aa z aa.length
  let good:Int->Bool:=λv=>match aa[v.toNat]? with | some ru=>decide (aT g ru=n) | none=>false
  have wit:∃v∈nums aa z aa.length,good v=true:=by
   obtain⟨ru,iS,q1,_,q3⟩:=DB (UR aa) S_ Y6 hz XH;obtain⟨j,ej⟩:=ix iS;have lj:=(bj.mp ej).1;refine⟨(j:Int),cy.mpr ⟨j,lU.mpr ⟨jD.mpr lj,bN (by rw [ej];exact congrArg some q1)⟩,rfl⟩,?_⟩;show (match aa[(j:Int).toNat]? with | some ru=>decide (aT g ru=n) | none=>false)=true
   rw [gJ,ej];exact bN q3
  refine⟨_,rfl,_,rfl,dn,_,rfl,hgn,p.2,rfl,⟨_,aG.of TQ⟩,λD9 Ly=>cI (xs:=(nums aa z aa.length).map V.int) (λm ys σ2 H9=>ys=(((nums aa z aa.length).take m).filter good).map V.int/\(∃y0,σ2=[y0,aM dz,aM R,some (.str z)])/\aB H8 H9/\H9 D9=some (.lst ys))
   ⟨rfl,⟨none,rfl⟩,af Ly _,ae⟩ (λm ys σ2 H9 _ h=>?_) (λm x ys σ2 H9 em h=>?_) (λys σ2 H9 h=>?_)⟩
  .obtain⟨_,_,sm,_⟩:=h;exact aG.of (sm _ _ TQ)
  .obtain⟨rfl,⟨y0,rfl⟩,sm,e9⟩:=h;rw [bo] at em;obtain⟨v,ev,rfl⟩:=cg.mp em;have lm:=(bj.mp ev).1;obtain⟨j,ru,rfl,ej,Uh⟩:=numOf m v ev;have L9:=L8.same sm;obtain⟨r,er,rv⟩:=Paired.at_ L9.cT j ru ej;have Bi:lS (rs.map V.ref) (j:Int)=some (.ref r):=cf (by rw [bo,er];rfl);have gj:good (j:Int)=decide (V.int (aT g ru)=V.int n):=by
    show (match aa[(j:Int).toNat]? with | some ru=>decide (aT g ru=n) | none=>false)=_
    rw [gJ,ej];show decide (aT g ru=n)=_;by_cases c:aT g ru=n
    .rw [bN c,bN (congrArg V.int c)]
    rw [cV c,cV (λy=>c (by injection y))]
   refine goN ?_;refine⟨_,rfl,_,rfl,_,rfl,R,_,_,_,rfl,rfl,L9.hR,Bi,dz,r,qP,g,ru,rfl,L9.rz,vz,rv,h8 ru (b8 ej),Ss ru (b8 ej),λzD uh=>?_⟩;have hgz:bX zD dz (.str z) (some (.int n)):=by
    have:=bX.r (k:=Sum.inr z) (L9.same uh).rz;rw [vz,XH] at this;exact this
   refine⟨_,rfl,_,rfl,dz,_,rfl,hgz,rfl,_,rfl,?_⟩;rw [<-gj];have HR:((nums aa z aa.length).take (m+1)).filter good=((nums aa z aa.length).take m).filter good++(if good (j:Int)=true then [(j:Int)] else []):=by
    rw [cQ,ev,o9]
    congr 1
    show List.filter good [(j:Int)]=_;by_cases c:good (j:Int)=true
    .rw [ax c,vv,ax c,List.filter_nil]
    rw [aw c,vv,aw c,List.filter_nil]
   have lf:(((nums aa z aa.length).take m).filter good).length<=1000:=dI (rH _ _) (by rw [dD];omega);refine cE (λcc=>?_) (λcc=>?_)
   .refine⟨_,rfl,uh _ _ e9,bF (by rw [av];omega),by rw [HR,ax cc,bG];rfl,⟨_,rfl⟩,λb u hb=>?_,ae⟩;rw [ai (λz=>by rw [z,Ly] at hb;cases hb)];exact uh _ _ (sm b u hb)
   exact⟨by rw [HR,aw cc,iu],⟨_,rfl⟩,sm.trans uh,uh _ _ e9⟩
  obtain⟨rfl,_,s9,e9⟩:=h;rw [av,cP] at e9;refine goN ?_
  ac_rfl
  have L9:=L8.same s9;cases hf:(nums aa z aa.length).filter good with
  | nil =>
   obtain⟨v,hv,gv⟩:=wit;have:v∈(nums aa z aa.length).filter good:=lU.mpr ⟨hv,gv⟩;rw [hf] at this;cases this
  | cons v0 vr =>
   rw [hf] at e9;have hm0:v0∈(nums aa z aa.length).filter good:=by rw [hf];exact cJ
   obtain⟨WU,TV⟩:=lU.mp hm0;obtain⟨m0,XG⟩:=ix WU;obtain⟨j,ru,rfl,ej,Uh⟩:=numOf m0 v0 XG;have hsz:aT g ru=n:=by
    have TV:(match aa[(j:Int).toNat]? with | some ru=>decide (aT g ru=n) | none=>false)=true:=TV
    rw [gJ,ej] at TV;exact dA TV
   have iS:=b8 ej;obtain⟨r,er,pp,v1,v2⟩:=Paired.at_ L9.cT j ru ej;have Bi:lS (rs.map V.ref) (j:Int)=some (.ref r):=cf (by rw [bo,er];rfl);have vk:lS (V.int (j:Int)::vr.map V.int) 0=some (.int (j:Int)):=cf (j:=0) rfl;have e9:H9 D9=some (.lst (V.int (j:Int)::vr.map V.int)):=e9;have e89:=s9 _ _ e8;have r8:=h8 ru iS;have Wd:∀p∈ru.2,(Sum.inr p:aL)∈kvs.map (·.1):=λy hy=>by
    obtain⟨my,ey⟩:=lX.mp (Ss ru iS y hy);by_cases hh:y∈hd aa
    .refine QO y (v7 pw Uc (pe.mem_iff.mpr hh) ?_);show (g y).getD 0 < (g z).getD 0;rw [ey,XH];show my < n;rw [<-hsz];exact Dh nn hy ey
    exact V9 y (ZY y hh (by rw [ey];rfl))
   refine⟨_,rfl,D9,_,_,_,rfl,rfl,aG.of e9,vk,_,rfl,_,rfl,D9,_,_,_,rfl,rfl,aG.of e9,vk,R,_,_,_,rfl,rfl,L9.hR,Bi,r,_,_,_,rfl,rfl,v1,rfl,pp,rfl,⟨_,v2⟩,λYM Xp=>tL (zs:=ru.2) rfl v2 ∅ e89 Wd Xp λys zD ly uh E3=>?_⟩;refine⟨YM,ys,rfl,.inl ⟨aG.of E3,λt2 N2=>⟨oK,λui D_=>?_⟩⟩⟩;have ZQ:=(af N2 (.tup ys)).trans (af D_ (.tup [.int (j:Int),.ref t2]));generalize upd (upd zD t2 (.tup ys)) ui (.tup [.int (j:Int),.ref t2])=zg at ZQ;have Qc:=(s9.trans uh).trans ZQ;have Jb:=Qc _ _ e8;refine⟨_,rfl,_,rfl,dt,_,rfl,.inl ⟨kvs,Sum.inr z,Jb,rfl,bF ∅,rfl⟩,?_⟩;have DF:∀y:aL,(y∈kvs.map (·.1)\/y=Sum.inr z)->y∈(bL kvs (Sum.inr z) (.ref ui)).map (·.1):=λy hy=>by
    by_cases hk:(Sum.inr z:aL)∈kvs.map (·.1)
    .rw [Ag hk];rcases hy with hy | rfl
     .exact hy
     exact hk
    rw [iB hk];rcases hy with hy | rfl
    .exact iH _ hy
    exact fU _ cJ
   have aag:(bL kvs (Sum.inr z) (.ref ui)).length<=kvs.length+1:=by
    have a:=congrArg List.length (Eq.refl ((bL kvs (Sum.inr z) (.ref ui)).map (·.1)));by_cases hk:(Sum.inr z:aL)∈kvs.map (·.1)
    .have b:=congrArg List.length (Ag (v:=.ref ui) hk);rw [av,av] at b;omega
    have b:=congrArg List.length (iB (v:=.ref ui) hk);rw [av,bp,av,d_] at b;omega
   refine⟨_,_,_,rfl,λb u nb hb=>?_,ae,∅,λy hy=>DF _ (.inl (V9 y hy)),λy hy=>?_⟩
   .rw [ai nb];exact Qc _ _ (s8 b u nb hb)
   rw [cQ,Uc] at hy;rcases cq.mp hy with hy | hy
   .exact DF _ (.inl (QO y hy))
   exact DF _ (.inr (by rw [bC.mp (show y∈[z] from hy)]))
 rintro σ H8 ⟨kvs,y3,y4,rfl,s8,e8,V5,V9,QO⟩;rw [av,cP] at QO;have L8:=L7.Ll e7 Zv Zo s8;refine⟨_,rfl,q dt kvs H8 ?_ (λb u n1 n3 hb=>?_) L8.t1 L8.t3 e8 λz hz=>QO z (pe.mem_iff.mpr hz)⟩
 .cases c:H dt with
  | none=>rfl
  | some u =>
   by_cases h1:dt=T1
   .obtain⟨pp,a,_⟩:=L3.t1;rw [<-h1,LF] at a;cases a
   rw [CY dt u h1 VQ c] at LF;cases LF
 refine s8 _ _ (λz=>?_) (II b u n1 n3 hb);rw [z] at hb;rw [CY dt u (λy=>n1 (z.trans y)) VQ hb] at LF;cases LF
end
end gT
namespace L2
open PySem PySem.Spec PyProof.Rows
section
variable {prog:Program}{w:World}{A:Around}{E:Value->Shared->Prop}
def vU {h h':Heap}{ks:List aL}{a:Addr}(p:(tupleKind (bh prog w)).is h ks a)(k:∀b o,o.cls=.type "tuple" -> h.get? b=some o->h'.get? b=some o):(tupleKind (bh prog w)).is h' ks a :=
 let ⟨o,aN,n,h1,h2,h3,h4⟩:=p;⟨o,aN,n,k a o h2 h1,h2,h3,h4⟩
def xg {h h':Heap}{d:Addr}{xs:List (List aL×Addr×Value)}(hd:h.DictOfH (tupleKind (bh prog w)) d xs)(kd:∀o,h.get? d=some o->h'.get? d=some o)(k:∀b o,o.cls=.type "tuple" -> h.get? b=some o->h'.get? b=some o) :
  h'.DictOfH (tupleKind (bh prog w)) d xs :=
 let ⟨o,es,ep,q,c,dd,e,is,n⟩:=hd;⟨o,es,ep,kd o q,c,dd,e,λx hx=>vU (is x hx) k,n⟩
def lR (prog:Program)(w:World)(h:Heap)(u:Value)(kv:List aL×Addr×Value):Prop :=
 ∃t n o,u=.ref t/\(tupleKind (bh prog w)).is h kv.1 kv.2.1/\h.get? t=some o/\o.cls=.type "tuple" /\ o.data=.seq #[.ref kv.2.1,kv.2.2] n
def lR.keep {h h':Heap}{u:Value}{kv:List aL×Addr×Value}(p:lR prog w h u kv)(k:∀b o,o.cls=.type "tuple" -> h.get? b=some o->h'.get? b=some o):lR prog w h' u kv :=
 let ⟨t,n,o,a,b,c,d,e⟩:=p;⟨t,n,o,a,vU b k,k t o d c,d,e⟩
def Cs (more xs:List (List aL×Addr×Value)):List (List aL×Addr×Value):=more.foldl (λa p=>storedH a p.1 p.2.1 p.2.2) xs
def Kv {R:Result->Shared->Prop}{d it l:Addr}{items:Array Value}(hh:A.handled=none)(hu:A.units+1 < cLine):∀(more:List (List aL×Addr×Value)) (i:Nat)(s:Shared)(kvs:List (List aL×Addr×Value)) (j:Int)(tk:Tok),items.size=i+more.length ->
  s.heap.DictOfH (tupleKind (bh prog w)) d kvs->s.heap.IsListIter it l i->s.heap.IsList l items->(∀m kv,more[m]?=some kv->∃u,items[i+m]?=some u/\lR prog w s.heap u kv)->kvs.length+more.length<=sizeLine ->
  (∀h' t',h'.DictOfH (tupleKind (bh prog w)) d (Cs more kvs)->(∀b o,b≠d->b≠it->s.heap.get? b=some o->h'.get? b=some o)->R (.ok (.ret .none)) { s with heap:=h',toks:=t' }) ->
  codeAny (model prog w) A (.builtin "dict.update.loop" ⟨[.ref d,.ref it,.int j tk,.none],[]⟩) R s:=by
 intro more
 induction more with
 | nil =>
  intro i s kvs j tk hi hd hit hl hp hz hR;refine kM lP ?_;rw [lW fQ _];unfold Builtin.«dict.update.loop»;have hs:items[i]?=none:=vO (by rw [hi];exact aD _);refine aq (vJ hh hit hl hs λh1 eb=>?_);have nd:d≠it:=λz=>by
   obtain⟨o,_,_,q,_,c,_⟩:=hd;obtain⟨o',q',_,c'⟩:=hit;rw [z,q'] at q;cases q;rw [c'] at c;cases c
  have nt:∀b o,o.cls=.type "tuple" -> s.heap.get? b=some o->b≠it:=λb o c q z=>by
   obtain⟨o',q',c',_⟩:=hit;rw [z,q'] at q;cases q;rw [c'] at c;exact absurd c nofun
  show wpAny _ _ (Builtin.Dict.addKeywords d [] >>= _) _ _ _;exact aq (aH (aH (hR h1 s.toks (xg hd (λo q=>eb d o nd q) λb o c q=>eb b o (nt b o c q) q) λb o n1 n2 q=>eb b o n2 q)))
 | cons kv more ih =>
  intro i s kvs j tk hi hd hit hl hp hz hR;refine kM lP ?_;rw [lW fQ _];unfold Builtin.«dict.update.loop»;obtain⟨u,Q4,t,n,o,rfl,hk,ho,hc,Cn⟩:=hp 0 kv rfl;refine aq (wpAny_pyNext_list_item hit hl Q4 λh1 Wk sb=>?_);have nd:d≠it:=λz=>by
   obtain⟨o,_,_,q,_,c,_⟩:=hd;obtain⟨o',q',_,c'⟩:=hit;rw [z,q'] at q;cases q;rw [c'] at c;cases c
  have n2:∀b o,(o.cls=.type "tuple" \/ o.cls=.type "list")->s.heap.get? b=some o->b≠d/\b≠it:=by
   intro b o c q;constructor
   .intro z;obtain⟨o',q',c'⟩:=hd.typeIs;rw [z,q'] at q;cases q;rw [c'] at c;rcases c with c | c <;> exact absurd c nofun
   intro z;obtain⟨o',q',c',_⟩:=hit;rw [z,q'] at q;cases q;rw [c'] at c;rcases c with c | c <;> exact absurd c nofun
  have nt:∀b o,o.cls=.type "tuple" -> s.heap.get? b=some o->b≠d/\b≠it:=λb o c q=>n2 b o (.inl c) q;have nl:l≠d/\l≠it:=by
   obtain⟨o,q,c,_⟩:=hl;exact n2 l o (.inr c) q
  have Wa:∀b o,o.cls=.type "tuple" -> s.heap.get? b=some o->h1.get? b=some o:=λb o c q=>(sb.2 b (nt b o c q).2).trans q;have EW:h1.get? t=some o:=Wa t o hc ho;have uW:h1.DictOfH (tupleKind (bh prog w)) d kvs:=xg hd (λo q=>(sb.2 d nd).trans q) Wa;refine aq (iW (aq (wpAny_tryCatch ?_)));unfold Builtin.Dict.pairItems;refine aq (jY (T := "tuple") ⟨o,EW,hc⟩ ?_);rw [ax nofun];refine aq (mr EW Cn (aH ?_));show wpAny _ _ (holding [.ref kv.2.1,kv.2.2] (dictSet d (.ref kv.2.1) kv.2.2)) _ _ _;rw [dS] at hz hi;refine iW (wpAny_dictSet_heap (s:={ s with heap:=h1 }) (o7 hu) (vU hk Wa) uW (λh2 hd2 Qa=>?_) ∅);have kk:∀b o,b≠d->b≠it->s.heap.get? b=some o->h2.get? b=some o:=λb o n1 n2 q=>(Qa.2 b n1).trans ((sb.2 b n2).trans q);have ln:(storedH kvs kv.1 kv.2.1 kv.2.2).length<=kvs.length+1:=by
   unfold storedH
   split
   .simp
   simp
  refine aH ⟨i9 fQ _,ih (i+1) _ _ _ _ ∅ hd2 (Wk.at λo q=>(Qa.2 it (fq nd)).trans q) (hl.at λo q=>kk l o nl.1 nl.2 q) (λm V_ e=>?_) ∅ λh3 t3 jf k3=>?_⟩
  .obtain⟨u',e1,e2⟩:=hp (m+1) V_ e;exact⟨u',by rw [<-e1];congr 1;omega,e2.keep λb o c q=>kk b o (nt b o c q).1 (nt b o c q).2 q⟩
  exact hR h3 t3 jf λb o n1 n2 q=>k3 b o n1 n2 (kk b o n1 n2 q)
def qE {s:Shared}{l:Addr}{items:Array Value}{n:Nat}{more:List (List aL×Addr×Value)}{Q:Value->Shared->Prop}(hh:A.handled=none)(hu:A.units+2 < cLine)(hx:s.heap.get? l=some { cls:=.type "list",data:=.seq items n })
  (hi:items.size=more.length)(hp:∀(m:Nat) kv,more[m]?=some kv->∃u,items[m]?=some u/\lR prog w s.heap u kv)(hz:more.length<=sizeLine)
  (h:∀h' t',h'.DictOfH (tupleKind (bh prog w)) s.heap.objs.size (Cs more [])->(∀b o,s.heap.get? b=some o->h'.get? b=some o)->Q (.ref s.heap.objs.size) { s with heap:=h',toks:=t' }) :
  wpAny (model prog w) A (call (.type "dict") [.ref l]) Q E s:=by
 refine callType_codes (Q₁:=λobj s₁=>obj=.ref s.heap.objs.size/\s₁={ s with heap:=s.heap.push { cls:=.type "dict",data:=.dict #[] } }) F.kt_called_dict (F.kt_typeCall_dict_1 _) F.entry_dict_init (kt_code_dict_new _ ⟨rfl,rfl⟩) ?_;rintro obj s₁ ⟨rfl,rfl⟩;have AA:(s.heap.push { cls:=.type "dict",data:=.dict #[] }).DictOfH (tupleKind (bh prog w)) s.heap.objs.size []:=Heap.DictOfH.new s.heap;have l0:=bH { cls:=.type "dict",data:=.dict #[] } hx;refine⟨AA.typeIs,F.args_dict_init_2 _ _,?_⟩;unfold Builtin.«dict.__init__» Builtin.Dict.selfAndRest;refine aq (aq (wpAny_notOrdered_dict AA.typeIs (aH ?_)));show wpAny _ _ (Builtin.Dict.updateFrom "dict.__init__" s.heap.objs.size (.ref l) [] .none) _ _ _;unfold Builtin.Dict.updateFrom;refine aq (jY (T := "list") ⟨_,l0,rfl⟩ ?_);rw [ax zQ];refine aq (pJ l0 hh λh1 t1 k1=>?_);refine aq (il ?_);have l1:=k1 _ _ l0;refine aq (mx ⟨_,l1,rfl,_,rfl⟩ ?_);have k2:∀b o,s.heap.get? b=some o->(h1.push { cls:=.type "list_iterator",data:=.fields #[.ref l,.int 0 0] }).get? b=some o:=λb o q=>bH _ (k1 _ _ (bH _ q));refine aH ⟨i9 fQ _,Kv (A:=A.in1) (l:=l) (items:=items) (show A.in1.handled=none from hh) (show A.in1.units+1 < cLine by rw [rg];omega) more 0 _ [] _ _ (by rw [hi,oP]) ?_ ⟨_,cA _ rfl,rfl,rfl⟩ ⟨_,k2 _ _ hx,rfl,n,rfl⟩ (λm kv e=>?_) (by simpa using hz) λh' t' hd k3=>?_⟩
 .exact xg AA (λo q=>bH _ (k1 _ _ q)) λb o _ q=>bH _ (k1 _ _ q)
 .obtain⟨u,e1,e2⟩:=hp m kv e;exact⟨u,by rw [oP];exact e1,e2.keep λb o _ q=>k2 b o q⟩
 refine⟨rfl,h h' t' hd λb o q=>k3 b o (bE (bu q)) ?_ (k2 b o q)⟩;have:=bu (k1 _ _ (bH { cls:=.type "dict",data:=.dict #[] } q));exact bE this
end
def oB (kvs bI:List (List aL×V)):List (List aL×V):=kvs.foldl (λa p=>bL a p.1 p.2) bI
theorem uY {H:Hp}:∀{kvs:List (List aL×V)}{vs:List (List aL×Addr×Value)}{bI:List (List aL×V)}{Il:List (List aL×Addr×Value)},KT H kvs vs->KT H bI Il->KT H (oB kvs bI) (Cs vs Il)
 | _,_,_,_,.nil,h=>h
 | _,_,_,_,.cons (a:=p) (b:=q) r t,h=>by
  obtain⟨e,hb,rv⟩:=r;show KT H (oB _ (bL _ p.1 p.2)) (Cs _ (storedH _ q.1 q.2.1 q.2.2));rw [<-e];exact uY t (h.put p.1 hb rv)
theorem uZ:∀(kvs bI:List (List aL×V)),(oB kvs bI).length<=bI.length+kvs.length
 | [],bI=>by simp [oB]
 | p::r,bI=>by
  have:=uZ r (bL bI p.1 p.2);have:=fM bI p.1 p.2;show (oB r (bL bI p.1 p.2)).length<=_;rw [dS];omega
section
variable {X:Cx}{ag:List (Addr×Obj)}{σ:St}{H:Hp}{s:Shared}
abbrev Pk (K:a8)(H:Hp)(t:Addr)(kv:List aL×V):Prop:=∃b,aR K H t [.ref b,kv.2]/\H b=some (.tup (kv.1.map kV))
theorem uM (I:Inv X ag σ H s):∀{ts:List Addr}{kvs:List (List aL×V)}{aN:List Value},Paired (Pk X.K H) ts kvs->aY (ts.map V.ref) aN ->
  ∃vs:List (List aL×Addr×Value),KT H kvs vs/\Paired (λu kv=>lR X.prog X.w s.heap u kv) aN vs
 | [],_,_,.nil,r=>by
  rw [mn] at r;cases r;exact⟨[],.nil,.nil⟩
 | t::ts,kv::kvs,_,.cons h p,r=>by
  rw [cO] at r;cases r with
  | cons r1 r2 =>
   obtain⟨vs,e1,e2⟩:=uM I p r2;obtain⟨b,h0,hb⟩:=h;obtain⟨aN,rv,⟨o,h1,h2,n,h3⟩,_⟩:=I.tuple h0;obtain⟨u1,u2,rfl,q1,q2⟩:=vals2 rv;cases (show u1=Value.ref b from q1);exact⟨(kv.1,b,u2)::vs,.cons ⟨rfl,hb,q2⟩ e1,.cons ⟨t,n,o,r1,mQ I.bZ hb,h1,h2,h3⟩ e2⟩
def y_ (hc:X.calm=true)(hu:X.A.units+2 < cLine):ij X (.type "dict") (λxs H Q=>∃a ts kvs,xs=[.ref a]/\H a=some (.lst (ts.map V.ref))/\Paired (Pk X.K H) ts kvs/\∀d,H d=none->Q (.ref d) (upd H d (.dT (oB kvs [])))):=by
 intro ag s σ H xs us Q I r h;obtain⟨a,ts,kvs,rfl,e,p,q⟩:=h;obtain⟨u,rfl,rx⟩:=vals1 r;cases (show u=Value.ref a from rx);obtain⟨z,aN,n,rv,ho⟩:=(show cM X.prog X.w H s.heap a (.lst _) from I.bZ a _ e);obtain⟨vs,r1,r2⟩:=uM I p rv;have l1:=a_ r2;have l2:=a_ r1;have l3:=a_ p;rw [av] at z;refine qE (I.ok.hd hc) hu ho (by simpa using l1) (λm kv em=>?_) ∅ λh' t' hd kk=>?_
 .obtain⟨u,e1,e2⟩:=Paired.at_ r2 m kv em;exact⟨u,by simpa using e1,e2⟩
 have fr:=I.bZ.fresh (aD s.heap.objs.size);have new:cM X.prog X.w (upd H s.heap.objs.size (.dT (oB kvs []))) h' s.heap.objs.size (.dT (oB kvs [])):=by
  obtain⟨o,es,ep,hq,h2,h3,h4,_,h5⟩:=hd;refine⟨?_,?_,_,(uY r1 .nil).keeps λc ys ec=>?_,o,es,ep,hq,h2,h3,h4,h5⟩
  .have:=uZ kvs [];simp at this;omega
  .have:=I.big;exact kN.mpr (j4 this)
  rw [ai (az ec fr)];exact ec
 exact⟨.ref s.heap.objs.size,_,I.laid (t':=t') kk (aD _) new,rfl,q _ fr⟩
end
open PySem M11
def Ez {K:a8}{H:Hp}{bg D:Addr}{ts:List Addr}{cS:List Be}{σ:St}{x1 x2 x3 x4:Str}{Qp:Hp->Prop}(hb:aG K H bg (ts.map V.ref))(O0:Paired (λt (b:Be)=>aR K H t [.str b.1,.str b.2.1,.int (b.2.2.1:Int),.int (b.2.2.2:Int)]) ts cS)(br:cS.length<=900000)(hD:H D=none)
  (q:∀us H2,aB H H2->H2 D=some (.lst (us.map V.ref))->Paired (λu (b:Be)=>∃v,Pk K H2 u ([Sum.inr b.1,Sum.inr b.2.1],.ref v)) us cS->Qp H2) :
  ∃W:Nat->Nat->List V->St->Hp->Prop,(∃m,W 0 m [] (dO [x1,x2,x3,x4] [] σ) (upd H D (.lst []))) /\
 ∀i m ys σ' H,W i m ys σ' H->((kn K bg).stop i H/\Qp H)\/((kn K bg).go i H/\∃m',m' < m/\∀x H',(kn K bg).mE i H x H'->AZ K 4 (ju (dM 0) (ju (dM 1) (ju (dM 2) (ju (dM 3) DV)))) x σ' H' λσ2 H2=>hX σ2 H2 λb H3 =>
  if b=true then ue (gM (ue (gM (gE 0) (gM (gE 1) rP))) (gM (ue (gM (gE 2) (gM (gE 3) rP))) rP)) σ2 H3 λy H4=>H4 D=some (.lst ys)/\ys.length < sizeLine/\W (i+1) m' (ys++[y]) σ2 (upd H4 D (.lst (ys++[y]))) else W (i+1) m' ys σ2 H3):=by
 have ll:=a_ O0;refine cI (xs:=ts.map V.ref) (λi ys σ2 H2=>∃us:List Addr,ys=us.map V.ref/\us.length=i/\Paired (λu (b:Be)=>∃v,Pk K H2 u ([Sum.inr b.1,Sum.inr b.2.1],.ref v)) us (cS.take i)/\(∃y0 y1 y2 y3,σ2=[y0,y1,y2,y3])/\aB H H2/\H2 D=some (.lst ys))
  ⟨[],rfl,rfl,.nil,⟨none,none,none,none,rfl⟩,af hD _,ae⟩ (λi ys σ2 H2 _ h=>?_) (λi x ys σ2 H2 ex h=>?_) (λys σ2 H2 h=>?_)
 .obtain⟨_,_,_,_,_,sm,_⟩:=h;exact sm.seq hb
 .obtain⟨us,rfl,hu,hp,⟨y0,y1,y2,y3,rfl⟩,sm,hd⟩:=h;rw [bo] at ex;obtain⟨r,er,rfl⟩:=cg.mp ex;have lr:=(bj.mp er).1;obtain⟨b,e1⟩:∃b,cS[i]?=some b:=⟨cS[i]'∅,b_ ∅⟩;obtain⟨r',RW,v1⟩:=Paired.at_ O0 i b e1;rw [er] at RW;cases RW;have li:=(bj.mp e1).1;refine⟨r,_,rfl,sm.tup v1,rfl,_,_,rfl,_,_,rfl,_,_,rfl,_,_,rfl,rfl,?_⟩;refine yE ?_;refine⟨_,rfl,_,rfl,oK,λk hk=>⟨_,rfl,_,rfl,oK,λv hv=>⟨oK,λu Z3=>?_⟩⟩⟩;have s3:=(af hk (.tup [V.str b.1,V.str b.2.1])).trans ((af hv (.tup [V.int (b.2.2.1:Int),V.int (b.2.2.2:Int)])).trans (af Z3 (.tup [.ref k,.ref v])));have ek:=((af hv (.tup [V.int (b.2.2.1:Int),V.int (b.2.2.2:Int)])).trans (af Z3 (.tup [.ref k,.ref v]))) k _ ae;have eu:aR K (upd (upd (upd H2 k (.tup [V.str b.1,V.str b.2.1])) v (.tup [V.int (b.2.2.1:Int),V.int (b.2.2.2:Int)])) u (.tup [.ref k,.ref v])) u [.ref k,.ref v]:=aR.of ae;generalize upd (upd (upd H2 k (.tup [V.str b.1,V.str b.2.1])) v (.tup [V.int (b.2.2.1:Int),V.int (b.2.2.2:Int)])) u (.tup [.ref k,.ref v])=H4 at s3 ek eu;have EY:=s3 _ _ hd;refine⟨EY,bF (by rw [av];omega),us++[u],by rw [bG];rfl,by rw [bp,hu];rfl,?_,⟨_,_,_,_,rfl⟩,?_,ae⟩
  .rw [cQ,e1];have kD:k≠D:=λz=>by rw [z,EY] at ek;cases ek
   refine gX (Paired.eJ hp λu' b' bx=>?_) ⟨v,k,aW EY eu,by rw [ai kD];exact ek⟩;obtain⟨v',bb,p1,p2⟩:=bx;exact⟨v',bb,aW EY (s3.tup p1),by rw [ai (λz=>by rw [z,hd] at p2;cases p2)];exact s3 _ _ p2⟩
  intro c o hc;rw [ai (λz=>by rw [z,hD] at hc;cases hc)];exact s3 _ _ (sm c o hc)
 obtain⟨us,rfl,hu,hp,_,sm,hd⟩:=h;rw [av,ll,cP] at hp;exact q us H2 sm hd hp
theorem F7 {K:a8}{H:Hp}:∀{us:List Addr}{cS:List Be},Paired (λu (b:Be)=>∃v,Pk K H u ([Sum.inr b.1,Sum.inr b.2.1],.ref v)) us cS->∃kvs,Paired (Pk K H) us kvs
 | _,_,.nil=>⟨[],.nil⟩
 | _,_,.cons ⟨v,h⟩ t=>let ⟨kvs,p⟩:=F7 t;⟨_::kvs,.cons h p⟩
end L2
namespace gT
open PySem L2 M11
def Tab.s2 {T T1 T2:Addr}{p p1 p2:Pos}{q q1 q2:Str}{H H':Hp}(h:Tab T p q H)(s:mh T1 T2 H H')(t1:Tab T1 p1 q1 H)(t2:Tab T2 p2 q2 H)(n1:T≠T1)(n2:T≠T2):Tab T p q H':=by
 obtain⟨ps,a,b,c⟩:=h;obtain⟨Th,b1,_⟩:=t1;obtain⟨Zh,b2,_⟩:=t2;refine⟨ps,s _ _ n1 n2 a,b,c.imp id ?_⟩;rintro⟨c',e,g⟩;exact⟨c',e,s _ _ (λz=>by rw [z,b1] at g;cases g) (λz=>by rw [z,b2] at g;cases g) g⟩
def kW {T a C dx:Addr}{pos:Pos}{qu:Str}{H:Hp}{fs:List (Str×V)}{o:HO}(h:Tab T pos qu H)(ha:H a=some (.ins C dx fs)):Tab T pos qu (upd H a o):=by
 obtain⟨ps,p,r,c⟩:=h;refine⟨ps,by rw [ai (λz=>by rw [z,ha] at p;cases p)];exact p,r,c.imp id ?_⟩;rintro⟨c',e,g⟩;exact⟨c',e,by rw [ai (λz=>by rw [z,ha] at g;cases g)];exact g⟩
def Kp (H H':Hp):Prop:=∀b o,H b=some o->(∀ps,o≠.t_ ps)->H' b=some o
def Kp.trans {H H1 H2:Hp}(a:Kp H H1)(b:Kp H1 H2):Kp H H2:=λc o h n=>b c o (a c o h n) n
def Kp.of {H H':Hp}(s:aB H H'):Kp H H':=λb o h _=>s b o h
def Kp.of2 {T1 T2:Addr}{p1 p2:Pos}{q1 q2:Str}{H H':Hp}(s:mh T1 T2 H H')(t1:Tab T1 p1 q1 H)(t2:Tab T2 p2 q2 H):Kp H H':=λc o hc hn=>by
 obtain⟨Th,b1,_⟩:=t1;obtain⟨Zh,b2,_⟩:=t2;exact s c o (λz=>by rw [z,b1] at hc;cases hc;exact hn _ rfl) (λz=>by rw [z,b2] at hc;cases hc;exact hn _ rfl) hc
section
theorem Kp.lst {H H':Hp}(k:Kp H H'){a:Addr}{xs:List V}(h:H a=some (.lst xs)):H' a=some (.lst xs):=k a _ h (λ_ z=>by cases z)
def Kp.tup {H H':Hp}(k:Kp H H'){a:Addr}{xs:List V}(h:aR K H a xs):aR K H' a xs:=by
 rcases h with (h | ⟨u,h⟩) | h
 .exact .inl (.inl (k _ _ h (λ_ z=>by cases z)))
 .exact .inl (.inr ⟨u,k _ _ h (λ_ z=>by cases z)⟩)
 exact .inr h
def Kp.seq {H H':Hp}(k:Kp H H'){a:Addr}{xs:List V}(h:aG K H a xs):aG K H' a xs:=by
 rcases h with (h | ⟨u,h⟩) | h
 .exact .inl (.inl (k _ _ h (λ_ z=>by cases z)))
 .exact .inl (.inr ⟨u,k _ _ h (λ_ z=>by cases z)⟩)
 exact .inr h
theorem Kp.aa {H H':Hp}(k:Kp H H'){rs:List Addr}{aa:List au}(h:bJ K H rs aa):bJ K H' rs aa:=h.keep λ_ _ z=>k.tup z
abbrev z7:Stmt:=QG sLT 0
structure LC (K:a8)(C:Addr):Prop where
 cls:EK K C
 a1:d5 K C "rules"
 a2:d5 K C "empty"
 a3:d5 K C "least"
 a4:d5 K C "hollow"
 a5:d5 K C "beginnings"
structure E8 (C3 T1 T3:Addr)(H0 H:Hp)(a dx:Addr)(fs:List (Str×V)):Prop where
 sm:mh T1 T3 H0 H
 ia:H a=some (.ins C3 dx fs)
 fa:H0 a=none
 t1:Tab T1 sL.2.2.2 zu H
 t3:Tab T3 posB IL H
 o1:Tab T1 sL.2.2.2 zu H0
 o3:Tab T3 posB IL H0
def E8.kp {C3 T1 T3 a dx:Addr}{H0 H:Hp}{fs:List (Str×V)}(h:E8 C3 T1 T3 H0 H a dx fs):Kp H0 H:=Kp.of2 h.sm h.o1 h.o3
def E8.set {C3 T1 T3 a dx:Addr}{H0 H:Hp}{fs:List (Str×V)}(h:E8 C3 T1 T3 H0 H a dx fs)(IZ:List (Str×V)):E8 C3 T1 T3 H0 (upd H a (.ins C3 dx IZ)) a dx IZ :=
 ⟨λb o n1 n3 hb=>by rw [ai (λz=>by rw [z,h.fa] at hb;cases hb)];exact h.sm b o n1 n3 hb,ae,h.fa,kW h.t1 h.ia,kW h.t3 h.ia,h.o1,h.o3⟩
def E8.next {C3 T1 T3 a dx:Addr}{H0 H H':Hp}{fs:List (Str×V)}(h:E8 C3 T1 T3 H0 H a dx fs)(s:aB H H'):E8 C3 T1 T3 H0 H' a dx fs :=
 ⟨λb o n1 n3 hb=>s _ _ (h.sm b o n1 n3 hb),s _ _ h.ia,h.fa,h.t1.same s,h.t3.same s,h.o1,h.o3⟩
def E8.Qx {C3 T1 T3 a dx:Addr}{H0 H H':Hp}{fs:List (Str×V)}(h:E8 C3 T1 T3 H0 H a dx fs)(s:mh T1 T3 H H')(t1:Tab T1 sL.2.2.2 zu H')(t3:Tab T3 posB IL H'):E8 C3 T1 T3 H0 H' a dx fs :=
 ⟨λb o n1 n3 hb=>s _ _ n1 n3 (h.sm b o n1 n3 hb),Kp.of2 s h.t1 h.t3 _ _ h.ia (λ_ z=>by cases z),h.fa,t1,t3,h.o1,h.o3⟩
def BR (K:a8)(C C3 T1 T3:Addr):Sp:=λvs H Q _=>∃(H0 Hb:Hp)(a dx R x e d bg:Addr)(rs:List Addr)(aa:List au)(kE:List (aL×V))(bz:List (Str×Nat))(ps:List (Str×Addr))(cS:List Be),vs=[.ref a,.ref R,.ref x]/\aB H0 H/\H0 a=none/\H a=some (.ins C3 dx [])/\aG K H0 R (rs.map V.ref)/\bJ K H0 rs aa /\
 aa.length < 64/\(∀ru∈aa,ru.2.length<=8)/\(∀g,eF M11.bl aa (zy aa) g->i6 M11.bl aa g->∀h∈hd aa,∃n,g h=some n/\n<=60)/\ux K C Hb H0 x e d bg kE bz ps cS/\xu aa bz/\cS.length<=80000/\Tab T1 sL.2.2.2 zu H0/\Tab T3 posB IL H0/\T1≠T3 /\
 ∀H',mh T1 T3 H0 H'->Tab T1 sL.2.2.2 zu H'->Tab T3 posB IL H'->Q .eV H'
def Ju:aI ["self","rules","begin_table"] ["self","rules","begin_table"] (ay z7):=iT rfl rfl rfl rfl nofun
def Gw {C C3 T1 T3:Addr}(F:iz K "__init__" "LeastTrees.__init__" z7 f fd)(T:Txt mg)(B:BC K C)(L:LC K C3)(GL:aE P w K mg base 4 "least_by_part" ["rules"] (pq K T1 T3))(GE:aE P w K mg base 4 "empty_by_name" ["rules","empties"] (uG K)) :
  bR P w K mg base fY 5 f fd ["self","rules","begin_table"] (BR K C C3 T1 T3):=by
 refine F.ok Ju (λvs H Q E h=>?_) (λeK A outer s H vs Q E hr h=>?_)
 .obtain⟨H0,Hb,a,dx,R,x,e,d,bg,rs,aa,kE,bz,ps,cS,rfl,_⟩:=h;rfl
 obtain⟨H0,Hb,a,dx,R,x,e,d,bg,rs,aa,kE,bz,ps,cS,rfl,s0,f0,ea,hR,cT,br,h8,Hu,S,emp,Nj,t1,t3,nT,q⟩:=h;have hu:=rC (Nat.add_le_add_left (by decide:2<=64) _) hr.units;refine⟨_,aj (gO (pv 0) (pv 1) rfl)
  (aj (gO (pv 0) (e_ (pv 2) rfl) rfl)
  (aj (gO (pv 0) (bc GL hr rfl (ab (pv 1) ah)) rfl)
  (aj (gO (pv 0) (bc GE hr rfl (ab (pv 1) (ab (e_ (pv 2) rfl) ah))) rfl)
  (ak (gO (pv 0) (aV (y_ rfl hu) rfl T.Bc fO (ab (ba ["name","word","number","place"] [] rfl (aX (e_ (pv 2) rfl)) (a9 rfl rfl) nofun rfl nofun
   (λ_ _ _ _ _=>ff (n:=4) K rfl (aA (ao (i:=0) (show (["name","word","number","place"]:List Str).Nodup by decide +kernel) rfl (bB rfl)) (aA (ao (i:=1) (show (["name","word","number","place"]:List Str).Nodup by decide +kernel) rfl (bB rfl)) (aA (ao (i:=2) (show (["name","word","number","place"]:List Str).Nodup by decide +kernel) rfl (bB rfl)) (aA (ao (i:=3) (show (["name","word","number","place"]:List Str).Nodup by decide +kernel) rfl (bB rfl)) bV))))) (λ_ _ _ _ _=>bQ)
   (λ_ _ _ _ _=>bS (ab (bS (ab (pv 0) (ab (pv 1) ah))) (ab (bS (ab (pv 2) (ab (pv 3) ah))) ah)))) ah)) rfl))))),?_⟩
 nofun
 have S0:E8 C3 T1 T3 H0 H a dx []:=⟨λb o _ _ hb=>s0 b o hb,ea,f0,t1.same s0,t3.same s0,t1,t3⟩;obtain⟨e1,te,⟨Pd,O3,Ue,leb⟩,ee1,evb,_⟩:=S.em;obtain⟨aar,aao,RS,l1,l2,_⟩:=S.ia;rw [Ue] at RS;cases RS;obtain⟨tb,ebg,O0⟩:=S.lb;have lets:=emp.len;refine⟨_,rfl,_,rfl,a,C3,dx,[],rfl,S0.ia,L.cls,L.a1,(by show 0 < 1000;decide),?_⟩;have S1:=S0.set (dU "rules" (.ref R) []);generalize TZ:dU "rules" (.ref R) []=Ub at S1;generalize upd H a (.ins C3 dx Ub)=H1 at S1;have x1:H1 x=some (.ins C Pd O3):=S1.kp _ _ Ue (λ_ z=>by cases z);refine⟨_,rfl,x,C,Pd,O3,_,rfl,x1,B.cls,B.a2,l1,_,rfl,a,C3,dx,Ub,rfl,S1.ia,L.cls,L.a2,(by rw [<-TZ];show 1 < 1000;decide),?_⟩;have S2:=S1.set (dU "empty" (.ref e) Ub);generalize Rt:dU "empty" (.ref e) Ub=uq at S2;generalize upd H1 a (.ins C3 dx uq)=H2 at S2;refine⟨_,rfl,R,rs,aa,rfl,S2.kp.seq hR,S2.kp.aa cT,br,h8,Hu,S2.t1,S2.t3,nT,λdl kl H3 fdl s3 zr t33 edl kdl=>?_⟩;have S3:=S2.Qx s3 zr t33;refine⟨_,rfl,a,C3,dx,uq,rfl,S3.ia,L.cls,L.a3,(by rw [<-Rt,<-TZ];show 2 < 1000;decide),?_⟩;have S4:=S3.set (dU "least" (.ref dl) uq);generalize hf4:dU "least" (.ref dl) uq=O4 at S4;generalize upd H3 a (.ins C3 dx O4)=H4 at S4;have x4:H4 x=some (.ins C Pd O3):=S4.kp _ _ Ue (λ_ z=>by cases z);refine⟨_,rfl,_,rfl,x,C,Pd,O3,_,rfl,x4,B.cls,B.a1,leb,R,e1,rs,te,aa,bz,rfl,S4.kp.seq hR,S4.kp.aa cT,∅,h8,aG.of (S4.kp.lst ee1),evb.keep λ_ _ z=>S4.kp.tup z,emp,∅,λdh kh H5 fdh s5 edh kdh=>?_⟩;have S5:=S4.next s5;refine⟨_,rfl,a,C3,dx,O4,rfl,S5.ia,L.cls,L.a4,(by rw [<-hf4,<-Rt,<-TZ];show 3 < 1000;decide),?_⟩;have S6:=S5.set (dU "hollow" (.ref dh) O4);generalize hf6:dU "hollow" (.ref dh) O4=zz at S6;generalize upd H5 a (.ins C3 dx zz)=H6 at S6;have x6:H6 x=some (.ins C Pd O3):=S6.kp _ _ Ue (λ_ z=>by cases z);have b6:=S6.kp.lst ebg;have v6:Paired (λt (b:Be)=>aR K H6 t [.str b.1,.str b.2.1,.int (b.2.2.1:Int),.int (b.2.2.2:Int)]) tb cS:=Paired.eJ O0 λ_ _ z=>S6.kp.tup z;refine⟨_,rfl,x,C,Pd,O3,_,rfl,x6,B.cls,B.a3,l2,bg,rfl,⟨_,aG.of b6⟩,λD7 Xm=>Ez (aG.of b6) v6 ∅ Xm λus H7 s7 e7 p7=>?_⟩;obtain⟨kvs,pk⟩:=F7 p7;refine⟨D7,us,kvs,rfl,e7,pk,λdb DQ=>?_⟩;have S8:=(S6.next s7).next (af DQ (.dT (oB kvs [])));refine⟨_,rfl,a,C3,dx,zz,rfl,S8.ia,L.cls,L.a5,(by rw [<-hf6,<-hf4,<-Rt,<-TZ];show 4 < 1000;decide),?_⟩;have S9:=S8.set (dU "beginnings" (.ref db) zz);exact q _ S9.sm S9.t1 S9.t3
structure IE (K:a8)(x qual:Str)(st:Stmt)(f:Addr)(fd:FuncData):Prop where
 ex:∃(oc:Value)(od:Option Addr)(kV doc pm:Value)(an:Option Addr)(eK ct:Value)(wJ:Array (Option Value))(T:Addr)(o:Obj) (n:Nat),
  fd=PySem.W.fnOf x qual (dB st) (cw st) (ay st) (.ref T) kV doc pm an eK ct/\K.lookup f=some ⟨oc,od,.func fd,wJ⟩/\PySem.W.codeIn K eK qual=true/\K.lookup T=some o/\o.data=.seq #[.none] n
 kp:PySem.W.keepIn K (.ref f)=true
def IE.ok {x qual:Str}{st:Stmt}{f:Addr}{fd:FuncData}{N ps:List Str}{k:Nat}{sp:Sp}(F:IE K x qual st f fd)(S:aI N ps (ay st))(len:∀vs H Q E,sp vs H Q E->vs.length=ps.length)
  (jt:∀(eK:Value)(A:Around)(outer:List Env)(s:Shared)(H:Hp)(vs:List V)(Q:VK)(E:XK),fh k (A.deeper (PyProof.Rows.envOfC qual (ay st) s.heap.objs.size f eK))->sp vs H Q E ->
   ∃t,Bm (pS fY P w K mg base N qual (ay st) f eK A outer s H E).Dx (cw st) t/\t { nx:=λ_ H'=>Q .eV H',rt:=Q } (start N vs) H):bR P w K mg base fY (k+1) f fd ps sp:=by
 obtain⟨oc,od,kV,doc,pm,an,eK,ct,wJ,T,o,n,rfl,lk,w6,_⟩:=F.ex;refine HP lk w6 S len λA outer s H vs Q E hr zw=>?_;obtain⟨t,h,q⟩:=jt eK A outer s H vs Q E hr zw;exact⟨t,h.Dx,q⟩
def HI {f:Addr}{fd:FuncData}(F:IE K "__init__" "Grammar.__init__" wq f fd):Binds K fd ["self","rules","strengths"] [.none]:=by
 obtain⟨oc,od,kV,doc,pm,an,eK,ct,wJ,T,o,n,rfl,lk,w6,lT,dT⟩:=F.ex;intro s us KI hl;have um:us.length=2:=by
  have:(us++[Value.none]).length=3:=hl;rw [bp] at this;exact Nat.succ.inj this
 match us,um with
 | [u1,u2],_=>exact BindsTo.of_defaults rfl (KI T o lT) dT rfl rfl
structure GC (K:a8)(C:Addr):Prop where
 cls:EK K C
 a1:d5 K C "rules"
 a2:d5 K C "strengths"
 a3:d5 K C "begin_table"
 a4:d5 K C "standings"
 a5:d5 K C "small_trees"
def StrIn (K:a8)(H:Hp)(sv:V)(ss:List Addr)(str:List au):Prop:=(sv=.eV/\ss=[]/\str=[])\/∃S,sv=.ref S/\aG K H S (ss.map V.ref)/\bJ K H ss str
def GrV (H0 H:Hp)(Cg g:Addr)(rs ss:List Addr)(bt:Addr):Prop:=∃gx fs R2 S2,H g=some (.ins Cg gx fs)/\fs.lookup ("rules":Str)=some (.ref R2)/\fs.lookup ("strengths":Str)=some (.ref S2)/\fs.lookup ("begin_table":Str)=some (.ref bt)/\fs.lookup ("start":Str)=none /\
 H R2=some (.lst (rs.map V.ref))/\H S2=some (.lst (ss.map V.ref))/\H0 R2=none/\H0 S2=none
def qt (T1 T2 T3:Addr)(H H':Hp):Prop:=∀b o,b≠T1->b≠T2->b≠T3->H b=some o->H' b=some o
structure CI (T1 T2 T3:Addr)(H:Hp):Prop where
 t1:Tab T1 sL.2.2.2 zu H
 t2:Tab T2 AG.2.2.2 Lh H
 t3:Tab T3 posB IL H
 Ld:T1≠T2
 Lc:T1≠T3
 Lb:T2≠T3
theorem CI.same {T1 T2 T3:Addr}{H H':Hp}(h:CI T1 T2 T3 H)(s:aB H H'):CI T1 T2 T3 H':=⟨h.t1.same s,h.t2.same s,h.t3.same s,h.Ld,h.Lc,h.Lb⟩
def CI.Fe {T1 T2 T3 a C dx:Addr}{H:Hp}{fs:List (Str×V)}{o:HO}(h:CI T1 T2 T3 H)(ha:H a=some (.ins C dx fs)):CI T1 T2 T3 (upd H a o):=⟨kW h.t1 ha,kW h.t2 ha,kW h.t3 ha,h.Ld,h.Lc,h.Lb⟩
def Kp.of3 {T1 T2 T3:Addr}{H H':Hp}(s:qt T1 T2 T3 H H')(t:CI T1 T2 T3 H):Kp H H':=λc o hc hn=>by
 obtain⟨Th,b1,_⟩:=t.t1;obtain⟨Zh,b2,_⟩:=t.t2;obtain⟨ps3,b3,_⟩:=t.t3;exact s c o (λz=>by rw [z,b1] at hc;cases hc;exact hn _ rfl) (λz=>by rw [z,b2] at hc;cases hc;exact hn _ rfl) (λz=>by rw [z,b3] at hc;cases hc;exact hn _ rfl) hc
def BS (K:a8)(Cg C T1 T2 T3:Addr):Sp:=λvs H Q _=>∃(H0:Hp)(g gx R:Addr)(sv:V)(rs ss:List Addr)(aa str:List au)(rk:Str->Nat)(b:Str->Int),vs=[.ref g,.ref R,sv]/\aB H0 H/\H0 g=none/\H g=some (.ins Cg gx [])/\aG K H0 R (rs.map V.ref)/\bJ K H0 rs aa/\aa.length < 64/\(∀ru∈aa,ru.2.length<=8)/\aa≠[] /\
 StrIn K H0 sv ss str/\str.length<=1000/\(∀ru∈str,ru.2.length<=8)/\(str.flatMap (·.2)).Nodup/\Good aa rk b/\CI T1 T2 T3 H0 /\
 ∀(bt:Addr)(H':Hp),qt T1 T2 T3 H0 H'->CI T1 T2 T3 H'->GrV H0 H' Cg g rs ss bt->Q .eV H'
def ux.Fe {C:Addr}{H0 H:Hp}{a e d bg:Addr}{kE:List (aL×V)}{bz:List (Str×Nat)}{ps:List (Str×Addr)}{cS:List Be}{g Cg gx:Addr}{fs IZ:List (Str×V)}(h:ux K C H0 H a e d bg kE bz ps cS)(hg:H0 g=some (.ins Cg gx fs))(na:a≠g) :
  ux K C (upd H0 g (.ins Cg gx IZ)) (upd H g (.ins Cg gx IZ)) a e d bg kE bz ps cS:=by
 have Kh:=h.sm _ _ hg;have up:∀c o,c≠g->H c=some o->upd H g (.ins Cg gx IZ) c=some o:=λc o n q=>by rw [ai n];exact q
 refine⟨λc o hc=>?_,?_,up _ _ (λz=>by have:=h.he;rw [z,Kh] at this;cases this) h.he,up _ _ (λz=>by have:=h.hd;rw [z,Kh] at this;cases this) h.hd,h.n1,h.n2,λp hp=>?_,?_,?_,?_⟩
 .by_cases z:c=g
  .rw [z,ae] at hc ⊢;exact hc
  rw [ai z] at hc ⊢;exact h.sm _ _ hc
 .obtain⟨dx,fs,q,r⟩:=h.ia;exact⟨dx,fs,up _ _ na q,r⟩
 .obtain⟨⟨kvs,q,r⟩,t1,t2⟩:=h.dk p hp;exact⟨⟨kvs,up _ _ (λz=>by rw [z,Kh] at q;cases q) q,r⟩,by rw [ai (λz=>by rw [z,hg] at t1;cases t1)];exact t1,t2⟩
 .obtain⟨ts,q,r⟩:=h.lb;exact⟨ts,up _ _ (λz=>by rw [z,Kh] at q;cases q) q,Paired.eJ r λ_ _ z=>h_ Kh z⟩
 .have t1:=h.fb;rw [ai (λz=>by rw [z,hg] at t1;cases t1)];exact t1
 obtain⟨e1,ts,⟨dx,fs,q1,q2⟩,q3,q4,q5⟩:=h.em;exact⟨e1,ts,⟨dx,fs,up _ _ na q1,q2⟩,up _ _ (λz=>by rw [z,Kh] at q3;cases q3) q3,q4.keep λ_ _ z=>h_ Kh z,q5⟩
def Jx:aI ["self","rules","strengths"] ["self","rules","strengths"] (ay wq):=iT rfl rfl rfl rfl nofun
def GA {Cg C C3 T1 T2 T3 fB fL:Addr}{fdB fdL:FuncData}(F:IE K "__init__" "Grammar.__init__" wq f fd)(T:Txt mg)(G:GC K Cg)(GR:aE P w K mg base 6 "refuse_faults" ["rules","strengths"] (rT K T1 T2))(GS:aE P w K mg base 6 "standings_by_part" ["rules"] (K2 K))
  (FB:bR P w K mg base fY 5 fB fdB ["self","rules"] (BY K C))(MB:Mk K C fB)(BB:Binds K fdB ["self","rules"] [])(mB:mg "BeginTable"=some (.ref C))
  (FL:bR P w K mg base fY 5 fL fdL ["self","rules","begin_table"] (BR K C C3 T1 T3))(ML:Mk K C3 fL)(BL:Binds K fdL ["self","rules","begin_table"] [])(mL:mg "LeastTrees"=some (.ref C3)):bR P w K mg base fY 7 f fd ["self","rules","strengths"] (BS K Cg C T1 T2 T3):=by
 refine F.ok Jx (λvs H Q E h=>?_) (λeK A outer s H vs Q E hr h=>?_)
 .obtain⟨H0,g,gx,R,sv,rs,ss,aa,str,rk,b,rfl,_⟩:=h;rfl
 obtain⟨H0,g,gx,R,sv,rs,ss,aa,str,rk,b,rfl,s0,f0,eg,hR,cT,br,h8,EX,mZ,Wz,WI,WG,gd,Xd,q⟩:=h;refine⟨_,aj (gO (pv 0) (aV cZ rfl T.lst dZ (ab (pv 1) ah)) rfl)
  (aj (qL (gO (pv 0) (sE (dH (Ao (pv 2))) (bA ah) (aV cZ rfl T.lst dZ (ab (pv 2) ah))) rfl))
  (aj (cC (bc GR hr rfl (ab (e_ (pv 0) rfl) (ab (e_ (pv 0) rfl) ah))))
  (aj (gO (pv 0) (bc GS hr rfl (ab (e_ (pv 0) rfl) ah)) rfl)
  (aj (gO (pv 0) (wH MB FB hr rfl mB BB .nil uL (ab (e_ (pv 0) rfl) ah)) rfl)
  (ak (gO (pv 0) (wH ML FL hr rfl mL BL .nil uL (ab (e_ (pv 0) rfl) (ab (e_ (pv 0) rfl) ah))) rfl)))))),?_⟩
 nofun
 refine⟨_,rfl,R,_,rfl,.inl (s0.seq hR),λR2 IW=>?_⟩;have XI:=af IW (.lst (rs.map V.ref)) _ _ eg;have tD:upd H R2 (.lst (rs.map V.ref)) R2=some (.lst (rs.map V.ref)):=ae;have Zc:=s0.trans (af IW (.lst (rs.map V.ref)));generalize upd H R2 (.lst (rs.map V.ref))=H1 at XI tD Zc;refine⟨_,rfl,g,Cg,gx,[],rfl,XI,G.cls,G.a1,(by show 0 < 1000;decide),?_⟩;generalize oj:dU "rules" (.ref R2) []=uq;have Kn:upd H1 g (.ins Cg gx uq) R2=some (.lst (rs.map V.ref)):=by rw [ai (λz=>by rw [z,XI] at tD;cases tD)];exact tD
 have FR:aB H0 (upd H1 g (.ins Cg gx uq)):=λc o hc=>by rw [ai (λz=>by rw [z,f0] at hc;cases hc)];exact Zc c o hc
 have Uj:upd H1 g (.ins Cg gx uq) g=some (.ins Cg gx uq):=ae;generalize upd H1 g (.ins Cg gx uq)=H2 at Kn FR Uj;refine⟨λσ H3=>σ=[aM g,aM R,some sv]/\∃S2 fs,aB H0 H3/\H3 g=some (.ins Cg gx fs)/\fs=dU "strengths" (.ref S2) uq/\H3 R2=some (.lst (rs.map V.ref))/\H3 S2=some (.lst (ss.map V.ref))/\H0 S2=none,?_,?_⟩
 .have fin:∀S2,H2 S2=none->(λH3=>∃S2 fs,aB H0 H3/\H3 g=some (.ins Cg gx fs)/\fs=dU "strengths" (.ref S2) uq/\H3 R2=some (.lst (rs.map V.ref))/\H3 S2=some (.lst (ss.map V.ref))/\H0 S2=none) (upd (upd H2 S2 (.lst (ss.map V.ref))) g (.ins Cg gx (dU "strengths" (.ref S2) uq)))/\upd H2 S2 (.lst (ss.map V.ref)) g=some (.ins Cg gx uq):=λS2 DT=>by
   have sl:=af DT (.lst (ss.map V.ref));have eS:upd H2 S2 (.lst (ss.map V.ref)) S2=some (.lst (ss.map V.ref)):=ae;have R7:=sl _ _ Uj;refine⟨⟨S2,_,λc o hc=>?_,ae,rfl,?_,?_,FR.free DT⟩,R7⟩
   .rw [ai (λz=>by rw [z,f0] at hc;cases hc)];exact sl _ _ (FR c o hc)
   .rw [ai (λz=>by rw [z,Uj] at Kn;cases Kn)];exact sl _ _ Kn
   rw [ai (λz=>by rw [z,Uj] at DT;cases DT)];exact eS
  rcases mZ with ⟨rfl,rfl,rfl⟩ | ⟨S,rfl,hS,TH⟩
  .refine⟨_,rfl,_,rfl,?_⟩;refine g9 ?_;refine⟨rM,λS2 DT=>?_⟩;obtain⟨x1,x2⟩:=fin S2 DT;exact⟨_,rfl,g,Cg,gx,uq,rfl,x2,G.cls,G.a2,(by rw [<-oj];show 1 < 1000;decide),rfl,x1⟩
  refine⟨_,rfl,_,rfl,?_⟩;refine du ?_;refine⟨_,rfl,S,_,rfl,.inl (FR.seq hS),λS2 DT=>?_⟩;obtain⟨x1,x2⟩:=fin S2 DT;exact⟨_,rfl,g,Cg,gx,uq,rfl,x2,G.cls,G.a2,(by rw [<-oj];show 1 < 1000;decide),rfl,x1⟩
 rintro σ H3 ⟨rfl,S2,IY,CY,R7,qB,er3,es3,fS2⟩;have ZE:IY.lookup ("rules":Str)=some (.ref R2):=by rw [qB,<-oj];rfl
 have Tq:IY.lookup ("strengths":Str)=some (.ref S2):=by rw [qB,<-oj];rfl
 have WC:bJ K H3 ss str:=by
  rcases mZ with ⟨_,rfl,rfl⟩ | ⟨S,_,_,TH⟩
  .exact .nil
  exact TH.same CY
 have zr:=Xd.same CY;refine⟨_,rfl,g,Cg,gx,IY,_,rfl,R7,G.cls,G.a1,ZE,_,rfl,g,Cg,gx,IY,_,rfl,R7,G.cls,G.a2,Tq,R2,S2,rs,ss,aa,str,rk,b,rfl,aG.of er3,cT.same CY,∅,h8,EX,aG.of es3,WC,Wz,WI,WG,gd,zr.t1,zr.t2,zr.Ld,λH4 Td Y1 Y0=>?_⟩;have J_:=Kp.of2 Td zr.t1 zr.t2;have t4:CI T1 T2 T3 H4:=⟨Y1,Y0,Tab.s2 zr.t3 Td zr.t1 zr.t2 zr.Lc.symm zr.Lb.symm,zr.Ld,zr.Lc,zr.Lb⟩;have S04:qt T1 T2 T3 H0 H4:=λc o n1 n2 _ hc=>Td c o n1 n2 (CY c o hc);have eg4:=J_ _ _ R7 (λ_ z=>by cases z);have er4:=J_.lst er3;have es4:=J_.lst es3;have Rc:bJ K H4 rs aa:=J_.aa (cT.same CY);clear Y1 Y0 Td zr;refine⟨_,rfl,g,Cg,gx,IY,_,rfl,eg4,G.cls,G.a1,ZE,R2,rs,aa,rfl,aG.of er4,Rc,∅,h8,λds H5 fds ua=>?_⟩;have O9:=ua _ _ eg4;have er5:=ua _ _ er4;have es5:=ua _ _ es4;have WL:=Rc.same ua;have t5:=t4.same ua;have S05:qt T1 T2 T3 H0 H5:=λc o n1 n2 n3 hc=>ua _ _ (S04 c o n1 n2 n3 hc);refine⟨_,rfl,g,Cg,gx,IY,rfl,O9,G.cls,G.a4,(by rw [qB,<-oj];show 2 < 1000;decide),?_⟩;generalize w5:dU "standings" (.ref ds) IY=zz;have VG:∀{Hx:Hp}{fx fy:List (Str×V)},Hx g=some (.ins Cg gx fx)->qt T1 T2 T3 H0 Hx->qt T1 T2 T3 H0 (upd Hx g (.ins Cg gx fy)):=λ{Hx fx fy} hg hs c o n1 n2 n3 hc=>by
  rw [ai (λz=>by rw [z,f0] at hc;cases hc)];exact hs c o n1 n2 n3 hc
 have OR:∀{Hx:Hp}{fx fy:List (Str×V)}{b:Addr}{xs:List V},Hx g=some (.ins Cg gx fx)->Hx b=some (.lst xs)->upd Hx g (.ins Cg gx fy) b=some (.lst xs):=λ{Hx fx fy b xs} hg hb=>by
  rw [ai (λz=>by rw [z,hg] at hb;cases hb)];exact hb
 have S06:=VG (fy:=zz) O9 S05;have XE:=OR (fy:=zz) O9 er5;have es6:=OR (fy:=zz) O9 es5;have Nz:bJ K (upd H5 g (.ins Cg gx zz)) rs aa:=WL.keep λ_ _ z=>h_ O9 z;have t6:CI T1 T2 T3 (upd H5 g (.ins Cg gx zz)):=t5.Fe O9;have R6:upd H5 g (.ins Cg gx zz) g=some (.ins Cg gx zz):=ae;generalize upd H5 g (.ins Cg gx zz)=H6 at S06 XE es6 Nz t6 R6;have lk6:zz.lookup ("rules":Str)=some (.ref R2):=by rw [<-w5,qB,<-oj];rfl
 refine⟨_,rfl,g,Cg,gx,zz,_,rfl,R6,G.cls,G.a1,lk6,λx dx hx hdx ndx=>?_⟩;have sx:aB H6 (upd (upd H6 dx (.own x)) x (.ins C dx [])):=(af hdx _).trans (af (by rw [ai ndx.symm];exact hx) _);refine⟨H6,x,dx,R2,rs,aa,rfl,sx,hx,ae,aG.of XE,Nz,∅,h8,λe d bg kE bz ps cS H7 S7 m7 emp _ _ beg _=>⟨rfl,?_⟩⟩;have O8:=S7.sm _ _ R6;have er7:=S7.sm _ _ XE;have es7:=S7.sm _ _ es6;have t7:=t6.same S7.sm;have WK:=Nz.same S7.sm;have S07:qt T1 T2 T3 H0 H7:=λc o n1 n2 n3 hc=>S7.sm _ _ (S06 c o n1 n2 n3 hc);refine⟨_,rfl,g,Cg,gx,zz,rfl,O8,G.cls,G.a3,(by rw [<-w5,qB,<-oj];show 3 < 1000;decide),?_⟩;generalize AS:dU "begin_table" (.ref x) zz=A1;have S08:=VG (fy:=A1) O8 S07;have XD:=OR (fy:=A1) O8 er7;have es8:=OR (fy:=A1) O8 es7;have Rb:bJ K (upd H7 g (.ins Cg gx A1)) rs aa:=WK.keep λ_ _ z=>h_ O8 z;have t8:CI T1 T2 T3 (upd H7 g (.ins Cg gx A1)):=t7.Fe O8;have Ui:upd H7 g (.ins Cg gx A1) g=some (.ins Cg gx A1):=ae;have B8:ux K C (upd H6 g (.ins Cg gx A1)) (upd H7 g (.ins Cg gx A1)) x e d bg kE bz ps cS:=S7.Fe R6 (λz=>by rw [z,R6] at hx;cases hx);generalize upd H7 g (.ins Cg gx A1)=H8 at S08 XD es8 Rb t8 Ui B8;have V5:A1.lookup ("rules":Str)=some (.ref R2):=by rw [<-AS,<-w5,qB,<-oj];rfl
 have lb8:A1.lookup ("begin_table":Str)=some (.ref x):=by rw [<-AS,<-w5,qB,<-oj];rfl
 refine⟨_,rfl,g,Cg,gx,A1,_,rfl,Ui,G.cls,G.a1,V5,_,rfl,g,Cg,gx,A1,_,rfl,Ui,G.cls,G.a3,lb8,λy dy hy hdy ndy=>?_⟩;have sy:aB H8 (upd (upd H8 dy (.own y)) y (.ins C3 dy [])):=(af hdy _).trans (af (by rw [ai ndy.symm];exact hy) _);have Nj:=beg.len ∅ h8;refine⟨H8,_,y,dy,R2,x,e,d,bg,rs,aa,kE,bz,ps,cS,rfl,sy,hy,ae,aG.of XD,Rb,br,h8,gd.least,B8,emp,Nj,t8.t1,t8.t3,t8.Lc,λH9 Vj Vb t39=>⟨rfl,?_⟩⟩;have Nl:=Kp.of2 Vj t8.t1 t8.t3;have RZ:=Nl _ _ Ui (λ_ z=>by cases z);have er9:=Nl.lst XD;have es9:=Nl.lst es8;have t9:CI T1 T2 T3 H9:=⟨Vb,Tab.s2 t8.t2 Vj t8.t1 t8.t3 t8.Ld.symm t8.Lb,t39,t8.Ld,t8.Lc,t8.Lb⟩;have S09:qt T1 T2 T3 H0 H9:=λc o n1 n2 n3 hc=>Vj _ _ n1 n3 (S08 c o n1 n2 n3 hc);refine⟨_,rfl,g,Cg,gx,A1,rfl,RZ,G.cls,G.a5,(by rw [<-AS,<-w5,qB,<-oj];show 4 < 1000;decide),?_⟩;refine q x _ (VG RZ S09) (t9.Fe RZ) ⟨gx,_,R2,S2,ae,?_,?_,?_,?_,OR RZ er9,OR RZ es9,s0.free IW,fS2⟩
 .rw [<-AS,<-w5,qB,<-oj];rfl
 .rw [<-AS,<-w5,qB,<-oj];rfl
 .rw [<-AS,<-w5,qB,<-oj];rfl
 rw [<-AS,<-w5,qB,<-oj];rfl
end
def EU:List Str->Str->Nat
 | [],_=>0
 | a::r,x=>if a=x then 0 else EU r x+1
theorem sO:∀(l:List Str)(x:Str),x∈l->l[EU l x]?=some x
 | [],x,h=>by cases h
 | a::r,x,h=>by
  unfold EU;by_cases c:a=x
  .rw [ax c];exact congrArg some c
  rw [aw c];rcases bY.mp h with e | e
  .exact absurd e.symm c
  rw [List.getElem?_cons_succ];exact sO r x e
theorem og:∀(l:List Str)(x:Str) (i:Nat),x∈l.take i->EU l x < i
 | [],x,i,h=>by simp at h
 | a::r,x,0,h=>by simp at h
 | a::r,x,i+1,h=>by
  unfold EU;by_cases c:a=x
  .rw [ax c];omega
  rw [aw c];rw [List.take_succ_cons] at h;rcases bY.mp h with e | e
  .exact absurd e.symm c
  have:=og r x i e;omega
def qH {l:List Str}{x:Str}{i:Nat}(h:x∈l.take i):∃j,j < i/\l[j]?=some x:=by
 obtain⟨j,hj⟩:=ix h;have lj:=(bj.mp hj).1;rw [dD] at lj;rw [rL ∅] at hj;exact⟨j,∅,hj⟩
def sR {aa:List au}{ru:au}(h:ru∈aa):ru.1∈hd aa:=(hV _ _ _).mpr (.inr (j_ h))
def Lx {aa:List au}{x:Str}(h:x∈hd aa):∃ru∈aa,ru.1=x:=by
 rcases (hV _ _ _).mp h with h | h
 .cases h
 obtain⟨ru,a,b⟩:=cy.mp h;exact⟨ru,a,b⟩
def LI {aa:List au}{x:Str}(h:Em aa x):x∈hd aa:=by
 cases h with
 | mk h _=>exact sR h
def Od {aa:List au}{bz:List (Str×Nat)}(h:xu aa bz):∀y∈bz.map (·.1),Em aa y:=by
 induction h with
 | nil=>intro y hy;cases hy
 | @snoc bz k ru _ e _ p ih =>
  intro y hy;rw [bG] at hy;rcases cq.mp hy with h | h
  .exact ih y h
  rw [bC.mp h];exact .mk (b8 e) λq hq=>ih q (p q hq)
def G8 {b:Str->Bool}{zs:List Str}{i j:Nat}{x:Str}(h:J0 b zs j=true)(e:zs[i]?=some x)(n:i≠j):b x=true:=by
 cases hb:b x with
 | true=>rfl
 | false =>
  have li:=(bj.mp e).1;have m:((i:Nat):Int)∈Ea b zs zs.length:=by
   unfold Ea;exact cy.mpr ⟨i,lU.mpr ⟨jD.mpr li,by rw [e];show (!(b x))=true;rw [hb];rfl⟩,rfl⟩
  unfold J0 at h;rcases Bool.or_eq_true_iff.mp h with h | h
  .rw [<-dA h] at m;cases m
  rw [<-dA h] at m;have:=bC.mp m;omega
theorem BD {f:Str->Int}{c:Int}:∀(ps:List Str),(∀x∈ps,f x<=c)->(ps.map f).sum<=ps.length * c
 | [],_=>by simp
 | p::r,h=>by
  have h1:=BD r λx hx=>h x (cW _ hx);have h2:=h p cJ;rw [cO,kQ,dS];have:((r.length+1:Nat):Int) * c=(r.length:Int) * c+c:=by rw [Int.natCast_add,Int.add_mul];omega
  omega
structure zf (aa:List au) (ns E M Pl:List Str):Prop where
 n3:ns.length<=3
 xx:∀ru∈aa,ru.1∈ns
 p3:∀ru∈aa,ru.2.length<=3
 eN:E.Nodup
 eNs:∀x∈E,x∈ns
 eO:∀(i:Nat)(h:Str),E[i]?=some h->∃bD,(h,bD)∈aa/\∀p∈bD,p∈E.take i\/p∉hd aa
 eA:∀h∈hd aa,h∈E
 mO:∀(i:Nat)(h:Str),M[i]?=some h->(∃lZ,aa[0]?=some lZ/\h=lZ.1)\/∃ru∈aa,ru.1∈M.take i/\h∈ru.2
 mA:∀h∈hd aa,h∈M
 lN:Pl.Nodup
 ZI:∀x∈Pl,x∈ns
 lO:∀(i:Nat)(h:Str),Pl[i]?=some h->∀ru∈aa,ru.1=h->∀(j:Nat)(z:Str),ru.2[j]?=some z->z∈hd aa->(∀(k:Nat)(y:Str),k≠j->ru.2[k]?=some y->Em aa y)->z∈Pl.take i
 lA:∀h∈hd aa,h∈Pl
def b3:Nat->Int
 | 0=>1
 | 1=>4
 | _=>13
def c3:Nat->Int
 | 0=>0
 | 1=>1
 | _=>4
def LX {i j:Nat}(hi:i < 3)(h:j < i):b3 j<=c3 i:=by
 have:∀i:Nat,i < 3->∀j:Nat,j < i->b3 j<=c3 i:=by decide
 exact this i hi j h
def Sn {i:Nat}:1+3 * c3 i=b3 i:=by
 match i with
 | 0=>rfl
 | 1=>rfl
 | _+2=>rfl
def LU {i:Nat}:0<=c3 i:=by
 match i with
 | 0=>decide
 | 1=>decide
 | _+2=>exact(by decide:(0:Int)<=4)
def Ii {i:Nat}:0<=b3 i/\b3 i<=60:=by
 match i with
 | 0=>decide
 | 1=>decide
 | _+2=>exact(by decide:(0:Int)<=13/\(13:Int)<=60)
def K4 {f:Str->Int}{i:Nat}{ps:List Str}(h3:ps.length<=3)(h:∀x∈ps,f x<=c3 i):1+(ps.map f).sum<=b3 i:=by
 have h1:=BD ps h;have h2:(ps.length:Int) * c3 i<=3 * c3 i:=Int.mul_le_mul_of_nonneg_right ∅ LU;have:=@Sn i;omega
def bP (Pl:List Str)(x:Str):Int:=if x∈Pl then b3 (EU Pl x) else 0
def zf.good {aa:List au}{ns E M Pl:List Str}(O:zf aa ns E M Pl):Good aa (EU Pl) (bP Pl) where
 least g st se:=by
  have QL:E.length<=3:=dI (gA E ns O.eN O.eNs) O.n3;have aU:∀x,x∉hd aa->∀ru∈aa,x∈ru.2->g x=some 0:=by
   intro x nn ru iS hm;refine eF.keep (J:=λg=>g x=some 0) (λg IJ j h2 _=>?_) st ?_
   .show eG g IJ.1 _ x=some 0;unfold eG;have:x≠IJ.1:=λz=>nn (z ▸ sR h2);rw [aw this];exact j
   show zy aa x=some 0;unfold zy;rw [ax (vS _ _ _ _ (.inr ⟨ro.mpr ⟨ru,iS,hm⟩,nn⟩))]
  have key:∀(n i:Nat),i < n->∀h:Str,E[i]?=some h->∃m,g h=some m/\m<=b3 i:=by
   intro n
   induction n with
   | zero=>intro i hi;omega
   | succ n ih =>
    intro i hi h e;have li:=(bj.mp e).1;obtain⟨ps,hm,hp⟩:=O.eO i h e;have hv:∀p∈ps,∃m,g p=some m/\m<=c3 i:=λp uk=>by
     rcases hp p uk with h1 | h1
     .obtain⟨j,lj,ej⟩:=qH h1;obtain⟨m,e1,e2⟩:=ih j ∅ p ej;exact⟨m,e1,Int.le_trans e2 (LX ∅ lj)⟩
     exact⟨0,aU p h1 _ hm uk,LU⟩
    have hs:=se _ hm;unfold cU at hs;have a1:lJ g (h,ps)=true:=gr.mpr λp hp=>by obtain⟨m,e1,_⟩:=hv p hp;show (g p).isSome=true;rw [e1];rfl
    have s0:aT g (h,ps)<=b3 i:=by
     unfold aT;exact K4 (O.p3 _ hm) λp hp=>by obtain⟨m,e1,e2⟩:=hv p hp;show (g p).getD 0<=_;rw [e1];exact e2
    rw [a1,j5] at hs;cases gn:g h with
    | none=>rw [show g (h,ps).1=none from gn] at hs;cases hs
    | some m =>
     rw [show g (h,ps).1=some m from gn] at hs;refine⟨m,rfl,?_⟩;have:¬aT g (h,ps) < m:=by simpa [M11.bl] using hs
     omega
  intro h hh;obtain⟨i,hi⟩:=ix (O.eA h hh);obtain⟨m,e1,e2⟩:=key (i+1) i ∅ h hi;exact⟨m,e1,Int.le_trans e2 Ii.2⟩
 met lZ ms e0 h0 mc:=by
  have key:∀(n i:Nat),i < n->∀h:Str,M[i]?=some h->h∈ms:=by
   intro n
   induction n with
   | zero=>intro i hi;omega
   | succ n ih =>
    intro i hi h e;rcases O.mO i h e with ⟨r0,e1,e2⟩ | ⟨ru,iS,h1,h2⟩
    .rw [e0] at e1;cases e1;rw [e2];exact h0
    obtain⟨j,lj,ej⟩:=qH h1;exact mc ru (by rw [cP];exact iS) (ih j ∅ _ ej) h h2
  intro h hh;obtain⟨i,hi⟩:=ix (O.mA h hh);exact key (i+1) i ∅ h hi
 loop:=by
  rintro bz emp Eh n k j ⟨lZ,z0,e1,e2,e3,e4,e5⟩ ru z er ez;rw [er] at e1;obtain rfl:ru=lZ:=iw e1;rw [ez] at e3;obtain rfl:z=z0:=iw e3;have iS:=b8 er;have hn:n∈Pl:=O.lA n (e2 ▸ sR iS);refine og Pl z _ (O.lO _ n (sO Pl n hn) ru iS e2 j z ez e4 λk' y nk ey=>?_);have:=G8 e5 ey nk;exact Od emp y (dA this)
 Uw:=by
  refine⟨λz=>?_,λru iS OZ=>?_⟩
  .unfold bP
   split
   .exact Ii.1
   decide
  have hn:ru.1∈Pl:=O.lA _ (sR iS);have li:=(bj.mp (sO Pl ru.1 hn)).1;have QL:Pl.length<=3:=dI (gA Pl ns O.lN O.ZI) O.n3;have e:bP Pl ru.1=b3 (EU Pl ru.1):=ax hn;rw [e];refine K4 (O.p3 ru iS) λp hp=>?_;obtain⟨j,ej⟩:=ix hp;have ht:=O.lO _ ru.1 (sO Pl ru.1 hn) ru iS rfl j p ej (LI (OZ p hp)) λk' y _ ey=>OZ y (b8 ey);have e2:bP Pl p=b3 (EU Pl p):=ax (qV ht);rw [e2];exact LX ∅ (og Pl p _ ht)
 most h hh:=by
  unfold bP
  split
  .exact Ii.2
  decide
end gT
namespace M11
open PySem
def dF (aU:Bool) (a7 e:List Str)(ru:au):List Str:=if ((ru.2.all λp=>decide (p∈e) || (aU && !decide (p∈a7))) && !decide (ru.1∈e))=true then e++[ru.1] else e
def fV (aU:Bool) (a7 e:List Str)(aa:List au):List Str:=aa.foldl (dF aU a7) e
def passes {α:Type}(f:α->α):Nat->α->α
 | 0,a=>a
 | n+1,a=>f (passes f n a)
def cH (aU:Bool)(aa:List au):List Str:=passes (λe=>fV aU (aa.map (·.1)) e aa) aa.length []
structure EO (aU:Bool) (a7:List Str)(aa:List au) (e:List Str):Prop where
 nd:e.Nodup
 ord:∀(i:Nat)(h:Str),e[i]?=some h->∃bD,(h,bD)∈aa/\∀p∈bD,p∈e.take i\/(aU=true/\p∉a7)
def EO.step {aU:Bool}{a7:List Str}{aa:List au}{e:List Str}(h:EO aU a7 aa e){ru:au}(hr:ru∈aa):EO aU a7 aa (dF aU a7 e ru):=by
 unfold dF
 split
 .rename_i c
  obtain⟨c1,c2⟩:=fk.mp c;have Pg:ru.1∉e:=by simpa using c2
  refine⟨j9.mpr ⟨h.nd,by simp,λa ha b hb z=>Pg (by rw [<-bC.mp hb,<-z];exact ha)⟩,λi x hx=>?_⟩;by_cases l:i < e.length
  .rw [qd l] at hx;obtain⟨bD,a,b⟩:=h.ord i x hx;refine⟨bD,a,λp hp=>?_⟩;rw [qe ∅];exact b p hp
  have li:=(bj.mp hx).1;rw [bp,d_] at li;have:i=e.length:=by omega
  subst this;rw [nv (aD _),Nat.sub_self] at hx;cases hx;refine⟨ru.2,hr,λp hp=>?_⟩;rw [qe (aD _),cP];have:=gr.mp c1 p hp;simp only [Bool.or_eq_true,decide_eq_true_eq,kT,Bool.not_eq_true',decide_eq_false_iff_not] at this;exact this
 exact h
theorem EO.pass {aU:Bool}{a7:List Str}{aa:List au}:∀(rs:List au){e:List Str},(∀ru∈rs,ru∈aa)->EO aU a7 aa e->EO aU a7 aa (rs.foldl (dF aU a7) e)
 | [],_,_,h=>h
 | ru::rs,_,hs,h=>EO.pass rs (λr hr=>hs r (cW _ hr)) (h.step (hs ru cJ))
def HW (aU:Bool)(aa:List au):EO aU (aa.map (·.1)) aa (cH aU aa):=by
 have:∀n,EO aU (aa.map (·.1)) aa (passes (λe=>fV aU (aa.map (·.1)) e aa) n []):=by
  intro n
  induction n with
  | zero=>exact⟨kK,λi h e=>by cases e⟩
  | succ n ih=>exact EO.pass aa (λ_ h=>h) ih
 exact this _
def uE (aU:Bool) (a7 e:List Str)(ru:au):dF aU a7 e ru=e\/e.length < (dF aU a7 e ru).length:=by
 unfold dF
 split
 .right;simp
 left;rfl
theorem yF (aU:Bool) (a7:List Str):∀(rs:List au) (e:List Str),e.length<=(rs.foldl (dF aU a7) e).length
 | [],_=>aD _
 | ru::rs,e=>by
  have h1:=yF aU a7 rs (dF aU a7 e ru);have h2:=uE aU a7 e ru;show _<=(rs.foldl (dF aU a7) (dF aU a7 e ru)).length;rcases h2 with h | h
  .rw [h] at h1 ⊢;exact h1
  omega
theorem sZ (aU:Bool) (a7:List Str):∀(rs:List au) (e:List Str),(rs.foldl (dF aU a7) e=e/\∀ru∈rs,dF aU a7 e ru=e)\/e.length < (rs.foldl (dF aU a7) e).length
 | [],_=>.inl ⟨rfl,λ_ h=>by cases h⟩
 | ru::rs,e=>by
  show (rs.foldl (dF aU a7) (dF aU a7 e ru)=e/\_)\/_ < (rs.foldl (dF aU a7) (dF aU a7 e ru)).length;rcases uE aU a7 e ru with h | h
  .rw [h];rcases sZ aU a7 rs e with ⟨a,b⟩ | c
   .refine .inl ⟨a,λr hr=>?_⟩;rcases bY.mp hr with rfl | hr
    .exact h
    exact b r hr
   exact .inr c
  right;have:=yF aU a7 rs (dF aU a7 e ru);omega
theorem iP:∀(l m:List Str),l.Nodup->(∀z∈l,z∈m)->l.length<=m.length
 | [],m,_,_=>fj _
 | x::r,m,hn,hs=>by
  have hx:=hs x cJ;have Hs:=ni.mp hn;have:=iP r (m.erase x) Hs.2 λz hz=>(List.mem_erase_of_ne (λe=>Hs.1 (by rw [<-e];exact hz))).mpr (hs z (cW _ hz));rw [List.length_erase_of_mem hx] at this;have:0 < m.length:=List.length_pos_of_mem hx;rw [dS];omega
def EO.sub {aU:Bool}{a7:List Str}{aa:List au}{e:List Str}(h:EO aU a7 aa e):∀x∈e,x∈aa.map (·.1):=λx hx=>by
 obtain⟨i,hi⟩:=ix hx;obtain⟨bD,a,_⟩:=h.ord i x hi;exact cy.mpr ⟨_,a,rfl⟩
def Ef (aU:Bool)(aa:List au):∀ru∈aa,dF aU (aa.map (·.1)) (cH aU aa) ru=cH aU aa:=by
 have eo:∀n,EO aU (aa.map (·.1)) aa (passes (λe=>fV aU (aa.map (·.1)) e aa) n []):=by
  intro n
  induction n with
  | zero=>exact⟨kK,λi h e=>by cases e⟩
  | succ n ih=>exact EO.pass aa (λ_ h=>h) ih
 have key:∀n,(passes (λe=>fV aU (aa.map (·.1)) e aa) (n+1) []=passes (λe=>fV aU (aa.map (·.1)) e aa) n []/\∀ru∈aa,dF aU (aa.map (·.1)) (passes (λe=>fV aU (aa.map (·.1)) e aa) n []) ru=passes (λe=>fV aU (aa.map (·.1)) e aa) n [])\/n < (passes (λe=>fV aU (aa.map (·.1)) e aa) (n+1) []).length:=by
  intro n
  induction n with
  | zero =>
   rcases sZ aU (aa.map (·.1)) aa [] with h | h
   .exact .inl h
   exact .inr h
  | succ n ih =>
   rcases ih with ⟨a,b⟩ | c
   .left;rw [show passes (λe=>fV aU (aa.map (·.1)) e aa) (n+1+1) []=fV aU (aa.map (·.1)) (passes (λe=>fV aU (aa.map (·.1)) e aa) (n+1) []) aa from rfl,a];exact⟨a,b⟩
   rcases sZ aU (aa.map (·.1)) aa (passes (λe=>fV aU (aa.map (·.1)) e aa) (n+1) []) with h | h
   .exact .inl h
   right;have h2:(passes (λe=>fV aU (aa.map (·.1)) e aa) (n+1) []).length < (passes (λe=>fV aU (aa.map (·.1)) e aa) (n+1+1) []).length:=h;omega
 rcases key aa.length with ⟨_,b⟩ | c
 .exact b
 have e1:=eo (aa.length+1);have:=iP _ _ e1.nd e1.sub;rw [av] at this;omega
def oC {aU:Bool}{aa:List au}{ru:au}(hr:ru∈aa)(h:∀p∈ru.2,p∈cH aU aa\/(aU=true/\p∉aa.map (·.1))):ru.1∈cH aU aa:=by
 have:=Ef aU aa ru hr;unfold dF at this;by_cases c:ru.1∈cH aU aa
 .exact c
 rw [ax] at this
 .have:=congrArg List.length this;rw [bp] at this;simp at this
 refine fk.mpr ⟨gr.mpr λp hp=>?_,by simpa using c⟩;simp only [Bool.or_eq_true,decide_eq_true_eq,kT,Bool.not_eq_true',decide_eq_false_iff_not];exact h p hp
def HX {aa:List au}{x:Str}(h:Em aa x):x∈cH false aa:=by
 induction h with
 | mk hr _ ih=>exact oC hr λp hp=>.inl (ih p hp)
end M11
namespace gT
open PySem L2 M11
abbrev FO:Stmt:=top 46
abbrev z6:Stmt:=top 47
abbrev wc:Stmt:=top 48
abbrev wA:Stmt:=top 49
abbrev FC:Stmt:=top 50
abbrev FE:Stmt:=top 51
abbrev z9:Stmt:=top 52
abbrev FK:Stmt:=top 53
abbrev FJ:Stmt:=top 54
def Yu {zs:List Str}{m:Int}(h:(zs.length:Int)=m)(hm:0 < m) (n:Int):∃z∈zs,lS (zs.map V.str) (n % m)=some (.str z):=by
 subst h;have h1:=Int.emod_lt_of_pos n hm;have h2:=Int.emod_nonneg n (show (zs.length:Int)≠0 by omega);have l:(n % (zs.length:Int)).toNat < zs.length:=by omega
 have e:n % (zs.length:Int)=(((n % (zs.length:Int)).toNat:Nat):Int):=by omega
 refine⟨zs[(n % (zs.length:Int)).toNat],pY l,?_⟩;have t:lS (zs.map V.str) (((n % (zs.length:Int)).toNat:Nat):Int)=some (.str zs[(n % (zs.length:Int)).toNat]):=cf (by rw [bo,b_ l];rfl);rw [<-e] at t;exact t
def yd {α:Type}(i:Nat)(x y z:α):α:=match i with | 0=>x | 1=>y | _=>z
def QH {H:Hp}{L1 L2 L3 LL:Addr}{xs ys zs:List V}(h1:H L1=none)(h2:upd H L1 (.lst xs) L2=none)(h3:upd (upd H L1 (.lst xs)) L2 (.lst ys) L3=none)
  (h4:upd (upd (upd H L1 (.lst xs)) L2 (.lst ys)) L3 (.lst zs) LL=none):aB H (upd (upd (upd (upd H L1 (.lst xs)) L2 (.lst ys)) L3 (.lst zs)) LL (.lst [.ref L1,.ref L2,.ref L3]))/\∀i:Nat,i < 3->∃Li,lS [V.ref L1,V.ref L2,V.ref L3] (i:Int)=some (.ref Li)/\H Li=none /\
   upd (upd (upd (upd H L1 (.lst xs)) L2 (.lst ys)) L3 (.lst zs)) LL (.lst [.ref L1,.ref L2,.ref L3]) Li=some (.lst (yd i xs ys zs)):=by
 have s1:=af h1 (.lst xs);have s2:=af h2 (.lst ys);have s3:=af h3 (.lst zs);have s4:=af h4 (.lst [.ref L1,.ref L2,.ref L3]);refine⟨s1.trans (s2.trans (s3.trans s4)),λi hi=>?_⟩
 match i,hi with
 | 0,_=>exact⟨L1,rfl,h1,s4 _ _ (s3 _ _ (s2 _ _ ae))⟩
 | 1,_=>exact⟨L2,rfl,s1.free h2,s4 _ _ (s3 _ _ ae)⟩
 | 2,_=>exact⟨L3,rfl,s1.free (s2.free h3),s4 _ _ ae⟩
def Cj (i:Nat):List Str:=yd i ["s","t","u"] ["b","aa","k"] ["a","ab","n"]
def SQ (i:Nat):List Str:=yd i ["a","b","c"] ["ab","a","c"] ["b","+","ba"]
def OO (i j:Nat):List Str:=(Cj i).map λz=>z++F4 "y" j
def JX (i:Nat):yd i [V.str "s",V.str "t",V.str "u"] [V.str "b",V.str "aa",V.str "k"] [V.str "a",V.str "ab",V.str "n"]=(Cj i).map V.str:=by
 match i with
 | 0=>rfl
 | 1=>rfl
 | _+2=>rfl
def Jn (i:Nat):yd i [V.str "a",V.str "b",V.str "c"] [V.str "ab",V.str "a",V.str "c"] [V.str "b",V.str "+",V.str "ba"]=(SQ i).map V.str:=by
 match i with
 | 0=>rfl
 | 1=>rfl
 | _+2=>rfl
def G0 (i:Nat):(Cj i).length=3:=by
 match i with
 | 0=>rfl
 | 1=>rfl
 | _+2=>rfl
def Mg (i:Nat):(SQ i).length=3:=by
 match i with
 | 0=>rfl
 | 1=>rfl
 | _+2=>rfl
def GY (i:Nat):∀z∈Cj i,z.length<=2:=by
 match i with
 | 0=>decide +kernel
 | 1=>decide +kernel
 | n+2=>exact(by decide +kernel:∀z∈Cj 2,z.length<=2)
def C_ {j:Nat}(h:j < 3):(F4 "y" j).length<=2:=by
 match j,h with
 | 0,_=>decide +kernel
 | 1,_=>decide +kernel
 | 2,_=>decide +kernel
section
def cellAt (ns:List Int) (k:Nat):Int:=(ns[k]?).getD 0
def v3 (K:a8):Sp:=λvs H Q _=>∃(a:Addr)(ns:List Int) (k:Nat),vs=[.ref a,.int (k:Int)]/\aG K H a (ns.map V.int)/\ns.length<=1000/\∀n:Int,n=cellAt ns k->Q (.int n) H
def MA:aI ["_law_script","_law_k"] ["_law_script","_law_k"] (ay FO):=iT rfl rfl rfl rfl nofun
def JU (F:iz K "_law_cell_at" "_law_cell_at" FO f fd)(T:Txt mg):bR P w K mg base fY 1 f fd ["_law_script","_law_k"] (v3 K):=by
 refine F.ok MA (λvs H Q E h=>?_) (λeK A outer s H vs Q E hr h=>?_)
 .obtain⟨a,ns,k,rfl,_⟩:=h;rfl
 obtain⟨a,ns,k,rfl,hS,hn,q⟩:=h;refine⟨_,aj (bU (bw qi (pv 1) (aF aK rfl T.len dJ (ab (pv 0) ah)) (bW _)) (ak (aQ (aP bT (pv 0) (pv 1) (λ_ _=>rfl)))) aS) (ak (aQ ar)),?_⟩
 nofun
 refine⟨_,rfl,_,rfl,a,_,rfl,.inl hS,_,_,rfl,rfl,_,rfl,?_⟩;refine cE (λcc=>?_) (λcc=>q 0 ?_)
 rotate_left
 .have ge:¬((k:Int) < ((ns.map V.int).length:Int)):=λz=>cc (bN z);rw [av] at ge;unfold cellAt;rw [qb ∅];rfl
 have lt:=dA cc;rw [av] at lt;have lt':k < ns.length:=by omega
 refine⟨_,rfl,_,rfl,a,_,_,.int ns[k],rfl,rfl,hS,cf (by rw [bo,b_ lt'];rfl),q _ (by unfold cellAt;rw [b_ lt'];rfl)⟩
def rV:Sp:=λvs H Q _=>∃(c:Int) (m:Nat)(S:Addr) (zs:List Str),vs=[.int c,.int (m:Int),.ref S]/\m<=100/\H S=some (.lst (zs.map V.str))/\0 < zs.length/\zs.length<=1000/\∀(p:Addr) (ps:List Str)(H':Hp),aB H H'->H' p=some (.tup (ps.map V.str))->ps.length=m->(∀x∈ps,x∈zs)->Q (.ref p) H'
def jk:aI ["_law_cell","_law_many","_law_some","_law_parts","_law_seed","_law_k"] ["_law_cell","_law_many","_law_some"] (ay wA):=iT rfl rfl rfl rfl nofun
def Du (F:iz K "_law_digits" "_law_digits" wA f fd)(T:Txt mg):bR P w K mg base fY 1 f fd ["_law_cell","_law_many","_law_some"] rV:=by
 refine F.ok jk (λvs H Q E h=>?_) (λeK A outer s H vs Q E hr h=>?_)
 .obtain⟨c,m,S,zs,rfl,_⟩:=h;rfl
 obtain⟨c,m,S,zs,rfl,hm,hS,Wq,hz1,q⟩:=h;refine⟨_,aj (aC (i:=3) jk.nd rfl (bB rfl) (bA ah))
  (aj (aC (i:=4) jk.nd rfl (bB rfl) (aZ fZ (aZ fK (pv 0) ar) ar))
  (aj (bK b9 rfl (gy rfl T.C8 (ab (pv 1) ah)) (ao (i:=5) jk.nd rfl (bB rfl))
   (ak (bU (bw yh (pv 0) ar (bW _))
    (aj (cC (gR f_ gK gL bM (pv 3) (ab (aP bT (pv 2) (aZ fK (aZ Ap (pv 0) ar) (aF aK rfl T.len dJ (ab (pv 2) ah))) (λ_ _=>rfl)) ah)))
    (ak (aC (i:=0) jk.nd rfl (bB rfl) (aZ fR (aZ Ap (pv 0) ar) (aF aK rfl T.len dJ (ab (pv 2) ah))))))
    (aj (aC (i:=4) jk.nd rfl (bB rfl) (aZ fK (aZ Ar (pv 4) ar) ar))
    (ak (cC (gR f_ gK gL bM (pv 3) (ab (aP bT (pv 2) (aZ fK (aZ fR (pv 4) ar) (aF aK rfl T.len dJ (ab (pv 2) ah))) (λ_ _=>rfl)) ah))))))))
  (ak (aQ (aV eY rfl T.tup qc (ab (pv 3) ah)))))),?_⟩
 nofun
 have Q2:(0:Int) < (zs.length:Int):=by omega
 refine⟨rM,λL hL=>?_⟩;have hS1:=af hL (.lst []) _ _ hS;have nS:S≠L:=λz=>by rw [z,hL] at hS;cases hS
 refine⟨_,rfl,_,_,rfl,rfl,(by show (0:Int) < 2147483647;decide),_,_,rfl,rfl,?_⟩;refine⟨_,rfl,(m:Int),rfl,∅,∅,?_⟩;rw [gJ m];refine g_ (n:=m) (λi σ H2=>∃(c2 c4:Int)(k2:Option V) (ps:List Str),σ=[some (.int c2),some (.int (m:Int)),aM S,aM L,some (.int c4),k2]/\H2=upd H L (.lst (ps.map V.str))/\ps.length=i/\∀x∈ps,x∈zs) ⟨c,_,none,[],rfl,rfl,rfl,λ_ h=>(by cases h)⟩ ?_ ?_
 .rintro i σ H2 hi ⟨c2,c4,k2,ps,rfl,rfl,hp,uk⟩
  ac_nf0
  have eS:upd H L (.lst (ps.map V.str)) S=some (.lst (zs.map V.str)):=by rw [ai nS];exact hS
  refine goN ?_
  ac_nf
  refine⟨_,rfl,_,_,rfl,rfl,_,rfl,?_⟩;refine cE (λ_=>?_) (λ_=>?_)
  .obtain⟨z,Q0,ez⟩:=Yu (zs:=zs) rfl Q2 (c2 - 1);refine⟨_,rfl,.inl ⟨rfl,_,aG.of ae⟩,_,rfl,_,rfl,_,_,rfl,rfl,_,rfl,S,_,rfl,.inl (aG.of eS),_,_,rfl,rfl,(by rw [av];exact Q2),?_⟩;rw [av];refine⟨S,_,_,_,rfl,rfl,aG.of eS,ez,L,_,_,rfl,rfl,ae,bF (by rw [av];omega),?_⟩;rw [nF];have eS2:upd H L (.lst (ps.map V.str++[.str z])) S=some (.lst (zs.map V.str)):=by rw [ai nS];exact hS
   refine⟨_,rfl,_,_,rfl,rfl,_,rfl,S,_,rfl,.inl (aG.of eS2),_,_,rfl,rfl,(by rw [av];exact⟨Q2,by show (zs.length:Int) < 1073741824;omega⟩),?_⟩;rw [av];exact⟨_,_,_,ps++[z],rfl,by rw [bG];rfl,by rw [bp,hp];rfl,λx hx=>(cq.mp hx).elim (uk x) λh=>(bC.mp h) ▸ Q0⟩
  refine⟨_,rfl,_,_,rfl,rfl,.inr ⟨nofun,nofun⟩,_,_,rfl,rfl,(by show (0:Int) < 2147483647;decide),?_⟩;obtain⟨z,Q0,ez⟩:=Yu (zs:=zs) rfl Q2 (c4 * 48271 % 2147483647 / 3);refine⟨_,rfl,.inl ⟨rfl,_,aG.of ae⟩,_,rfl,_,rfl,_,_,rfl,rfl,⟨nofun,nofun⟩,_,rfl,S,_,rfl,.inl (aG.of eS),_,_,rfl,rfl,(by rw [av];exact Q2),?_⟩;rw [av];refine⟨S,_,_,_,rfl,rfl,aG.of eS,ez,L,_,_,rfl,rfl,ae,bF (by rw [av];omega),?_⟩;rw [nF];exact⟨_,_,_,ps++[z],rfl,by rw [bG];rfl,by rw [bp,hp];rfl,λx hx=>(cq.mp hx).elim (uk x) λh=>(bC.mp h) ▸ Q0⟩
 rintro σ H2 ⟨c2,c4,k2,ps,rfl,rfl,hp,uk⟩;refine⟨_,rfl,L,_,rfl,.inl ⟨aG.of ae,λp oM=>?_⟩⟩;exact q p ps _ ((af hL _).trans (af oM _)) ae hp uk
def i3 (c:Int):Nat:=(c / 72 % 3).toNat
def j3 (c:Int):Nat:=(c / 3 % 3).toNat
def k3 (c:Int):Nat:=(1+c % 3).toNat
def Ck (c:Int):i3 c < 3/\c / 72 % 3=(i3 c:Int):=by unfold i3;omega
def Hf (c:Int):j3 c < 3/\c / 3 % 3=(j3 c:Int):=by unfold j3;omega
def Ln (c:Int):1<=k3 c/\k3 c<=3/\1+c % 3=(k3 c:Int):=by unfold k3;omega
def dq (c:Int):List Str:=(OO (i3 c) (j3 c)).take (k3 c)
def iR (c:Int):List Str:=SQ (i3 c)
def G1 {i j:Nat}(hi:i < 3)(hj:j < 3):(OO i j).Nodup/\∀x∈OO i j,x∉SQ i:=by
 match i,j,hi,hj with
 | 0,0,_,_=>decide +kernel
 | 0,1,_,_=>decide +kernel
 | 0,2,_,_=>decide +kernel
 | 1,0,_,_=>decide +kernel
 | 1,1,_,_=>decide +kernel
 | 1,2,_,_=>decide +kernel
 | 2,0,_,_=>decide +kernel
 | 2,1,_,_=>decide +kernel
 | 2,2,_,_=>decide +kernel
def DW (c:Int):(dq c).Nodup:=(G1 (Ck c).1 (Hf c).1).1.sublist (List.take_sublist _ _)
def DX (c:Int):∀x∈dq c,x∉iR c:=λx hx=>(G1 (Ck c).1 (Hf c).1).2 x (qV hx)
def JY (i j:Nat):(OO i j).length=3:=by unfold OO;rw [av];exact G0 i
def sW (c:Int):1<=(dq c).length/\(dq c).length<=3:=by
 have:=Ln c;unfold dq;rw [dD,JY];omega
def AY (c:Int):(iR c).length=3:=Mg _
def BP:Sp:=λvs H Q _=>∃(c:Int),vs=[.int c]/\∀(N:Addr)(H':Hp),H N=none->aB H H'->H' N=some (.lst ((dq c).map V.str))->Q (.ref N) H'
def B3:aI ["_law_cell","_law_some"] ["_law_cell"] (ay z6):=iT rfl rfl rfl rfl nofun
def Gv (F:iz K "_law_names" "_law_names" z6 f fd)(T:Txt mg):bR P w K mg base fY 1 f fd ["_law_cell"] BP:=by
 refine F.ok B3 (λvs H Q E h=>?_) (λeK A outer s H vs Q E hr h=>?_)
 .obtain⟨c,rfl,_⟩:=h;rfl
 obtain⟨c,rfl,q⟩:=h;refine⟨_,@aj _ _ _ _ _ (@aC _ _ 1 _ _ _ _ B3.nd rfl (bB rfl) (@aP _ _ _ _ _ _ _ bT (@bA _ _ _ _ (@ab _ _ _ _ _ (@bA _ _ _ _ (@ab _ _ _ _ _ (@cD _ _ _ _) (@ab _ _ _ _ _ (@cD _ _ _ _) (@ab _ _ _ _ _ (@cD _ _ _ _) (@ah _) rfl) rfl) rfl)) (@ab _ _ _ _ _ (@bA _ _ _ _ (@ab _ _ _ _ _ (@cD _ _ _ _) (@ab _ _ _ _ _ (@cD _ _ _ _) (@ab _ _ _ _ _ (@cD _ _ _ _) (@ah _) rfl) rfl) rfl)) (@ab _ _ _ _ _ (@bA _ _ _ _ (@ab _ _ _ _ _ (@cD _ _ _ _) (@ab _ _ _ _ _ (@cD _ _ _ _) (@ab _ _ _ _ _ (@cD _ _ _ _) (@ah _) rfl) rfl) rfl)) (@ah _) rfl) rfl) rfl)) (aZ fK (aZ fR (pv 0) ar) ar) (λ_ _=>rfl)) rfl (.inr rfl))
  (ak (aQ (ba ["_law_name"] [(0,"_law_cell")] rfl (aX (fJ jH (pv 1) hJ (fc (aZ fZ ar (aZ fK (pv 0) ar))))) (a9 rfl rfl) nofun rfl nofun
   (λ_ _ _ _ _=>ao (i:=0) (show (["_law_name","_law_cell"]:List Str).Nodup by decide +kernel) rfl (bB rfl)) (λ_ _ _ _ _=>bQ)
   (λ_ _ _ _ _=>aZ As (pv 0) (aZ JL cD (aZ fK (aZ fR (pv 1) ar) ar)))))),?_⟩
 nofun
 obtain⟨hi,ei⟩:=Ck c;obtain⟨hj,ej⟩:=Hf c;obtain⟨hk1,hk3,ek⟩:=Ln c;refine⟨KW,λL1 h1=>⟨KW,λL2 h2=>⟨KW,λL3 h3=>⟨KW,λLL Xj=>?_⟩⟩⟩⟩;obtain⟨s1,p1⟩:=QH h1 h2 h3 Xj;obtain⟨Li,a1,f1,e1⟩:=p1 (i3 c) hi;rw [JX] at e1;refine⟨_,rfl,_,_,rfl,rfl,⟨nofun,nofun⟩,_,_,rfl,rfl,(by show (0:Int) < 3;decide),?_⟩;refine⟨LL,_,(i3 c:Int),.ref Li,rfl,congrArg V.int ei,aG.of ae,a1,?_⟩;generalize upd (upd (upd (upd H L1 _) L2 _) L3 _) LL _=H1 at s1 e1;refine⟨_,rfl,_,rfl,_,_,rfl,rfl,(by show (0:Int) < 3;decide),_,_,rfl,rfl,_,rfl,Li,_,rfl,aG.of e1,λM hM=>?_⟩;have cut:gq ((Cj (i3 c)).map V.str) none (some (1+c % 3))=((Cj (i3 c)).take (k3 c)).map V.str:=by
  rw [ek];unfold gq;rw [show HT.fA ((Cj (i3 c)).map V.str).length 0 none=0 from rfl,HT.qK,q_,mq,oQ,<-List.take_eq_take_min]
 rw [cut];have s2:=s1.trans (af hM (.lst (((Cj (i3 c)).take (k3 c)).map V.str)));have eM:upd H1 M (.lst (((Cj (i3 c)).take (k3 c)).map V.str)) M=some (.lst (((Cj (i3 c)).take (k3 c)).map V.str)):=ae;generalize upd H1 M (.lst (((Cj (i3 c)).take (k3 c)).map V.str))=H2 at s2 eM;have gN:dq c=((Cj (i3 c)).take (k3 c)).map λz=>z++F4 "y" (j3 c):=by
  unfold dq OO;rw [oQ]
 refine⟨M,rfl,⟨_,aG.of eM⟩,λD hD=>cI (xs:=((Cj (i3 c)).take (k3 c)).map V.str) (λk ys σ2 H3=>ys=((dq c).take k).map V.str/\(∃y0,σ2=[y0,some (.int c)])/\aB H2 H3/\H3 D=some (.lst ys))
    ⟨rfl,⟨none,rfl⟩,af hD _,ae⟩ (λk ys σ2 H3 _ h=>?_) (λk x ys σ2 H3 ex h=>?_) (λys σ2 H3 h=>?_)⟩
 .obtain⟨_,_,sm,_⟩:=h;exact aG.of (sm _ _ eM)
 .obtain⟨rfl,⟨y0,rfl⟩,sm,eD⟩:=h;have lk:=(bj.mp ex).1;rw [av,dD,G0] at lk;rw [bo] at ex;obtain⟨z,ez,rfl⟩:=cg.mp ex;have hz:=GY (i3 c) z (qV (b8 ez));have hy:=C_ hj;refine goN (yE ?_);refine⟨_,rfl,_,rfl,_,_,rfl,rfl,⟨nofun,nofun⟩,_,_,rfl,rfl,(by show (0:Int) < 3;decide),?_⟩;have ly:("y":Str).length=1:=by decide +kernel
  refine⟨"y",j3 c,rfl,congrArg V.int ej,∅,ly,_,_,rfl,rfl,fits ∅,?_⟩;refine⟨eD,bF (by rw [av,dD];omega),?_,⟨_,rfl⟩,λb o hb=>?_,ae⟩
  .have:(dq c)[k]?=some (z++F4 "y" (j3 c)):=by rw [gN,bo,ez];rfl
   rw [cQ,this,bG];rfl
  rw [ai (λz=>by rw [z,hD] at hb;cases hb)];exact sm b o hb
 obtain⟨rfl,_,sm,eD⟩:=h;rw [qX (by rw [gN,av,av];exact aD _)] at eD;exact q D _ (s2.free hD) (s2.trans sm) eD
def xP:Sp:=λvs H Q _=>∃(c:Int),vs=[.int c]/\∀(N:Addr)(H':Hp),H N=none->aB H H'->H' N=some (.lst ((iR c).map V.str))->Q (.ref N) H'
def Fy:aI ["_law_cell"] ["_law_cell"] (ay wc):=iT rfl rfl rfl rfl nofun
def Dk (F:iz K "_law_words" "_law_words" wc f fd)(T:Txt mg):bR P w K mg base fY 1 f fd ["_law_cell"] xP:=by
 refine F.ok Fy (λvs H Q E h=>?_) (λeK A outer s H vs Q E hr h=>?_)
 .obtain⟨c,rfl,_⟩:=h;rfl
 obtain⟨c,rfl,q⟩:=h;refine⟨_,ak (aQ (@aP _ _ _ _ _ _ _ bT (@bA _ _ _ _ (@ab _ _ _ _ _ (@bA _ _ _ _ (@ab _ _ _ _ _ (@cD _ _ _ _) (@ab _ _ _ _ _ (@cD _ _ _ _) (@ab _ _ _ _ _ (@cD _ _ _ _) (@ah _) rfl) rfl) rfl)) (@ab _ _ _ _ _ (@bA _ _ _ _ (@ab _ _ _ _ _ (@cD _ _ _ _) (@ab _ _ _ _ _ (@cD _ _ _ _) (@ab _ _ _ _ _ (@cD _ _ _ _) (@ah _) rfl) rfl) rfl)) (@ab _ _ _ _ _ (@bA _ _ _ _ (@ab _ _ _ _ _ (@cD _ _ _ _) (@ab _ _ _ _ _ (@cD _ _ _ _) (@ab _ _ _ _ _ (@cD _ _ _ _) (@ah _) rfl) rfl) rfl)) (@ah _) rfl) rfl) rfl)) (aZ fK (aZ fR (pv 0) ar) ar) (λ_ _=>rfl))),?_⟩;dsimp only [Bd];obtain⟨hi,ei⟩:=Ck c;refine⟨KW,λL1 h1=>⟨KW,λL2 h2=>⟨KW,λL3 h3=>⟨KW,λLL Xj=>?_⟩⟩⟩⟩;obtain⟨s1,p1⟩:=QH h1 h2 h3 Xj;obtain⟨Li,a1,f1,e1⟩:=p1 (i3 c) hi;rw [Jn] at e1;refine⟨_,rfl,_,_,rfl,rfl,⟨nofun,nofun⟩,_,_,rfl,rfl,(by show (0:Int) < 3;decide),?_⟩;refine⟨LL,_,(i3 c:Int),.ref Li,rfl,congrArg V.int ei,aG.of ae,a1,?_⟩;exact q Li _ f1 s1 e1
def Fp (K:a8):Sp:=λvs H Q _=>∃(S N W:Addr)(ns:List Int) (at_ m:Nat) (eX ws:List Str),vs=[.ref S,.int (at_:Int),.ref N,.int (m:Int),.ref W]/\aG K H S (ns.map V.int)/\ns.length<=1000/\H N=some (.lst (eX.map V.str))/\H W=some (.lst (ws.map V.str))/\0 < eX.length/\eX.length<=5/\ws.length<=10/\m<=10 /\
 ∀(R:Addr)(rs:List Addr)(aa:List au)(H':Hp),H R=none->aB H H'->H' R=some (.lst (rs.map V.ref))->bJ K H' rs aa->aa.length=m->(∀ru∈aa,ru.1∈eX/\ru.2.length<=3/\∀x∈ru.2,x∈eX++ws)->Q (.ref R) H'
def r9:aI ["_law_script","_law_at","_law_names_here","_law_many","_law_words_here","_law_rules","_law_some","_law_k","_law_cell"] ["_law_script","_law_at","_law_names_here","_law_many","_law_words_here"] (ay FE):=iT rfl rfl rfl rfl nofun
def JP (F:iz K "_law_more" "_law_more" FE f fd)(T:Txt mg)(GC:aE P w K mg base 1 "_law_cell_at" ["_law_script","_law_k"] (v3 K))(GD:aE P w K mg base 1 "_law_digits" ["_law_cell","_law_many","_law_some"] rV):bR P w K mg base fY 2 f fd ["_law_script","_law_at","_law_names_here","_law_many","_law_words_here"] (Fp K):=by
 refine F.ok r9 (λvs H Q E h=>?_) (λeK A outer s H vs Q E hr h=>?_)
 .obtain⟨S,N,W,ns,at_,m,eX,ws,rfl,_⟩:=h;rfl
 obtain⟨S,N,W,ns,at_,m,eX,ws,rfl,hS,hn,hN,hW,TN,hn1,hw1,hm,q⟩:=h;refine⟨_,aj (aC (i:=5) r9.nd rfl (bB rfl) (bA ah))
  (aj (aC (i:=6) r9.nd rfl (bB rfl) (aZ jP (pv 2) (pv 4)))
  (aj (bK b9 rfl (gy rfl T.C8 (ab (pv 3) ah)) (ao (i:=7) r9.nd rfl (bB rfl))
   (aj (aC (i:=8) r9.nd rfl (bB rfl) (bc GC hr rfl (ab (pv 0) (ab (aZ fZ (pv 1) (pv 7)) ah))))
   (ak (cC (gR f_ gK gL bM (pv 5) (ab (bS (ab (aP bT (pv 2) (aZ fK (pv 8) (aF aK rfl T.len dJ (ab (pv 2) ah))) (λ_ _=>rfl))
    (ab (bc GD hr rfl (ab (aZ fR (pv 8) ar) (ab (aZ fK (aZ fR (pv 8) ar) ar) (ab (pv 6) ah)))) ah))) ah))))))
  (ak (aQ (pv 5))))),?_⟩
 nofun
 refine⟨rM,λL hL=>?_⟩;have s1:=af hL (.lst []);have e1:upd H L (.lst []) L=some (.lst []):=ae;generalize upd H L (.lst [])=H1 at s1 e1;refine⟨_,rfl,_,rfl,N,W,_,_,rfl,rfl,s1 _ _ hN,s1 _ _ hW,fits (by rw [av,av];omega),λM hM=>?_⟩;rw [<-bG];have k2:=af hM (.lst ((eX++ws).map V.str));have s2:=s1.trans k2;have e2:=k2 _ _ e1;have m2:upd H1 M (.lst ((eX++ws).map V.str)) M=some (.lst ((eX++ws).map V.str)):=ae;have nM:M≠L:=λz=>by rw [z,e1] at hM;cases hM
 generalize upd H1 M (.lst ((eX++ws).map V.str))=H2 at k2 s2 e2 m2;refine⟨_,rfl,(m:Int),rfl,∅,∅,?_⟩;rw [gJ m];refine g_ (n:=m) (λi σ H3=>∃(rs:List Addr)(aa:List au)(y7 y8:Option V),σ=[aM S,some (.int (at_:Int)),aM N,some (.int (m:Int)),aM W,aM L,aM M,y7,y8]/\aB H H3/\H3 L=some (.lst (rs.map V.ref))/\H3 M=some (.lst ((eX++ws).map V.str))/\bJ K H3 rs aa/\aa.length=i/\∀ru∈aa,ru.1∈eX/\ru.2.length<=3/\∀x∈ru.2,x∈eX++ws) ⟨[],[],none,none,rfl,s2,e2,m2,.nil,rfl,λ_ h=>by cases h⟩ ?_ ?_
 .intro i σ H3 hi lD
  ac_nf0
  obtain⟨rs,aa,y7,y8,rfl,s3,eL,eM,rl,hl,hf⟩:=lD;have lr:=a_ rl;refine goN ?_
  ac_rfl
  refine⟨_,rfl,_,rfl,_,rfl,_,_,rfl,rfl,?_⟩;refine⟨S,ns,at_+i,(by show [V.ref S,V.int ((at_:Int)+(0+(i:Int)))]=_;congr 3;push_cast;omega),s3.seq hS,hn,λc _=>?_⟩;have Z7:(0:Int) < (eX.length:Int):=by omega
  obtain⟨z,Q0,ez⟩:=Yu (zs:=eX) rfl Z7 c;obtain⟨d,hd⟩:∃d:Nat,c / 3 % 4=(d:Int):=⟨(c / 3 % 4).toNat,∅⟩;refine⟨_,rfl,.inl ⟨rfl,_,aG.of eL⟩,_,rfl,_,rfl,_,rfl,N,_,rfl,.inl (aG.of (s3 _ _ hN)),_,_,rfl,rfl,(by rw [av];exact Z7),?_⟩;rw [av];refine⟨N,_,_,_,rfl,rfl,aG.of (s3 _ _ hN),ez,?_⟩;refine⟨_,rfl,_,_,rfl,rfl,⟨nofun,nofun⟩,_,rfl,_,_,rfl,rfl,⟨nofun,nofun⟩,_,_,rfl,rfl,(by show (0:Int) < 4;decide),_,rfl,?_⟩;refine⟨_,d,M,eX++ws,(by show [_,V.int (c / 3 % 4),_]=_;rw [hd]),∅,eM,by rw [bp];omega,by rw [bp];omega,λp ps H4 s4 e4 l4 uk=>⟨oK,λR hR=>?_⟩⟩;have k5:=s4.trans (af hR (.tup [.str z,.ref p]));have v1:aR K (upd H4 R (.tup [.str z,.ref p])) R [.str z,.ref p]:=aR.of ae;have v2:aR K (upd H4 R (.tup [.str z,.ref p])) p (ps.map V.str):=(af hR _).tup (aR.of e4);generalize upd H4 R (.tup [.str z,.ref p])=H5 at k5 v1 v2;have Ei:=k5 _ _ eL;refine⟨L,_,_,rfl,rfl,Ei,bF (by rw [av];omega),?_⟩;refine⟨rs++[R],aa++[(z,ps)],_,_,rfl,λb o hb=>?_,by rw [ae,bG];rfl,by rw [ai nM];exact k5 _ _ eM,gX (rl.keep λb xs z=>aW Ei (k5.tup z)) ⟨p,aW Ei v1,aW Ei v2⟩,by rw [bp,hl];rfl,λru iS=>?_⟩
  .rw [ai (λz=>by rw [z,hL] at hb;cases hb)];exact k5 _ _ (s3 b o hb)
  rcases cq.mp iS with h | h
  .exact hf ru h
  rw [bC.mp h];exact⟨Q0,by show ps.length<=3;omega,uk⟩
 rintro σ H3 ⟨rs,aa,y7,y8,rfl,s3,eL,eM,rl,hl,hf⟩;exact⟨_,rfl,q L rs aa H3 hL s3 eL rl hl hf⟩
def pT (ns ws:List Str) (a:Nat) (bD:List Str):Prop :=
 (∃n' wx,ns[a+1]?=some n'/\wx≠[]/\(∀x∈wx,x∈ws)/\wx.length<=2/\(bD=wx++[n']\/bD=n'::wx))\/(ns.length<=a+1/\(∀x∈bD,x∈ws)/\bD.length<=2)
def Ie (l:List Str)(n:Str):gq ((l++[n]).map V.str) (some (-1)) none=[V.str n]:=by
 unfold gq;have h1:HT.fA ((l++[n]).map V.str).length 0 (some (-1))=l.length:=by
  rw [av,bp,d_];show (if (-1:Int) < 0 then ((-1:Int)+((l.length+1:Nat):Int)).toNat else min (-1:Int).toNat (l.length+1))=l.length;rw [ax nofun];omega
 rw [h1,HT.jl,<-List.map_drop,List.drop_append_of_le_length (aD _),List.drop_length,kR];rw [av,bp,d_,show l.length+1 - l.length=1 by omega];rfl
def Ih (l:List Str)(n:Str):gq ((l++[n]).map V.str) none (some (-1))=l.map V.str:=by
 unfold gq;have h1:HT.fA ((l++[n]).map V.str).length ((l++[n]).map V.str).length (some (-1))=l.length:=by
  rw [av,bp,d_];show (if (-1:Int) < 0 then ((-1:Int)+((l.length+1:Nat):Int)).toNat else min (-1:Int).toNat (l.length+1))=l.length;rw [ax nofun];omega
 rw [h1,HT.jl,q_,mq,<-oQ,qe (aD _),cP]
def Fn (K:a8):Sp:=λvs H Q _=>∃(S N W:Addr)(ns:List Int) (at_:Nat) (eX ws:List Str),vs=[.ref S,.int (at_:Int),.ref N,.ref W]/\aG K H S (ns.map V.int)/\ns.length<=1000/\H N=some (.lst (eX.map V.str))/\H W=some (.lst (ws.map V.str))/\0 < eX.length/\eX.length<=5/\0 < ws.length/\ws.length<=10 /\
 ∀(R:Addr)(rs:List Addr)(aa:List au)(H':Hp),H R=none->aB H H'->H' R=some (.lst (rs.map V.ref))->bJ K H' rs aa->aa.length=eX.length->(∀(j:Nat)(ru:au),aa[j]?=some ru->eX[j]?=some ru.1/\pT eX ws j ru.2)->Q (.ref R) H'
def mH:aI ["_law_script","_law_at","_law_names_here","_law_words_here","_law_rules","_law_k","_law_cell","_law_parts"] ["_law_script","_law_at","_law_names_here","_law_words_here"] (ay FC):=iT rfl rfl rfl rfl nofun
def JN (F:iz K "_law_skeleton" "_law_skeleton" FC f fd)(T:Txt mg)(GC:aE P w K mg base 1 "_law_cell_at" ["_law_script","_law_k"] (v3 K))(GD:aE P w K mg base 1 "_law_digits" ["_law_cell","_law_many","_law_some"] rV):bR P w K mg base fY 2 f fd ["_law_script","_law_at","_law_names_here","_law_words_here"] (Fn K):=by
 refine F.ok mH (λvs H Q E h=>?_) (λeK A outer s H vs Q E hr h=>?_)
 .obtain⟨S,N,W,ns,at_,eX,ws,rfl,_⟩:=h;rfl
 obtain⟨S,N,W,ns,at_,eX,ws,rfl,hS,hn,hN,hW,TN,hn1,Z0,hw1,q⟩:=h;refine⟨_,aj (aC (i:=4) mH.nd rfl (bB rfl) (bA ah))
  (aj (bK b9 rfl (gy rfl T.C8 (ab (aF aK rfl T.len dJ (ab (pv 2) ah)) ah)) (ao (i:=5) mH.nd rfl (bB rfl))
   (aj (aC (i:=6) mH.nd rfl (bB rfl) (bc GC hr rfl (ab (pv 0) (ab (aZ fZ (pv 1) (pv 5)) ah))))
   (aj (aC (i:=7) mH.nd rfl (bB rfl) (bc GD hr rfl (ab (aZ fR (pv 6) ar) (ab (aZ fK (pv 6) ar) (ab (pv 3) ah)))))
   (aj (qL (bU (bw qi (aZ fZ (pv 5) ar) (aF aK rfl T.len dJ (ab (pv 2) ah)) (bW _))
    (aj (aC (i:=7) mH.nd rfl (bB rfl) (aZ wK (bc GD hr rfl (ab (aZ fR (pv 6) ar) (ab (aZ fZ ar (aZ fK (pv 6) ar)) (ab (pv 3) ah)))) (bS (ab (aP bT (pv 2) (aZ fZ (pv 5) ar) (λ_ _=>rfl)) ah))))
    (ak (bU (bw iO (aZ fK (aZ fR (pv 6) ar) ar) ar (bW _))
     (ak (aC (i:=7) mH.nd rfl (bB rfl) (aZ wK (fJ qJ (pv 7) (fc (l7 ja ar)) hJ) (fJ qJ (pv 7) hJ (fc (l7 ja ar)))))) aS))) aS))
   (ak (cC (gR f_ gK gL bM (pv 4) (ab (bS (ab (aP bT (pv 2) (pv 5) (λ_ _=>rfl)) (ab (pv 7) ah))) ah))))))))
  (ak (aQ (pv 4)))),?_⟩
 nofun
 refine⟨rM,λL hL=>?_⟩;have s1:=af hL (.lst []);have e1:upd H L (.lst []) L=some (.lst []):=ae;generalize upd H L (.lst [])=H1 at s1 e1;refine⟨_,rfl,N,_,rfl,.inl (aG.of (s1 _ _ hN)),((eX.map V.str).length:Int),rfl,by rw [av];omega,by rw [av];omega,?_⟩;rw [av,gJ];refine g_ (n:=eX.length) (λi σ H3=>∃(rs:List Addr)(aa:List au)(y5 y6 y7:Option V),σ=[aM S,some (.int (at_:Int)),aM N,aM W,aM L,y5,y6,y7]/\aB H H3/\H3 L=some (.lst (rs.map V.ref))/\bJ K H3 rs aa/\aa.length=i/\∀(j:Nat)(ru:au),aa[j]?=some ru->eX[j]?=some ru.1/\pT eX ws j ru.2) ⟨[],[],none,none,none,rfl,s1,e1,.nil,rfl,λj ru e=>by cases e⟩ ?_ ?_
 .intro i σ H3 hi lD
  ac_nf0
  obtain⟨rs,aa,y5,y6,y7,rfl,s3,eL,rl,hl,hf⟩:=lD;have lr:=a_ rl;obtain⟨nm,NC⟩:∃nm,eX[i]?=some nm:=⟨eX[i],b_ hi⟩;have atn:lS (eX.map V.str) (0+(i:Int))=some (.str nm):=by
   rw [jZ];exact cf (by rw [bo,NC];rfl)
  refine goN ?_
  ac_rfl
  refine⟨_,rfl,_,rfl,_,rfl,_,_,rfl,rfl,?_⟩;refine⟨S,ns,at_+i,(by show [V.ref S,V.int ((at_:Int)+(0+(i:Int)))]=_;congr 3;push_cast;omega),s3.seq hS,hn,λc _=>?_⟩;obtain⟨d,hd⟩:∃d:Nat,c % 3=(d:Int):=⟨(c % 3).toNat,∅⟩;refine⟨_,rfl,_,_,rfl,rfl,⟨nofun,nofun⟩,_,rfl,_,_,rfl,rfl,(by show (0:Int) < 3;decide),_,rfl,?_⟩;refine⟨_,d,W,ws,(by show [_,V.int (c % 3),_]=_;rw [hd]),∅,s3 _ _ hW,Z0,∅,λp ps H4 s4 e4 l4 uk=>?_⟩;have x9:=s3.trans s4;have O_:=s4 _ _ eL;have EN:=rl.same s4;refine⟨λσ H5=>∃(p5:Addr) (bD:List Str),σ=[aM S,some (.int (at_:Int)),aM N,aM W,aM L,some (.int (0+(i:Int))),some (.int c),aM p5]/\aB H4 H5/\aR K H5 p5 (bD.map V.str)/\pT eX ws i bD,?_,?_⟩
  .refine⟨_,rfl,_,_,rfl,rfl,_,rfl,N,_,rfl,.inl (aG.of (x9 _ _ hN)),_,_,rfl,rfl,_,rfl,?_⟩;refine cE (λcc=>?_) (λcc=>?_)
   .have lt:=dA cc;rw [av] at lt;have lt':i+1 < eX.length:=by omega
    obtain⟨n',Ke⟩:∃n',eX[i+1]?=some n':=⟨eX[i+1],b_ lt'⟩;have Ys:lS (eX.map V.str) (0+(i:Int)+1)=some (.str n'):=by
     rw [jZ,show (i:Int)+1=((i+1:Nat):Int) by push_cast;rfl];exact cf (by rw [bo,Ke];rfl)
    obtain⟨d2,hd2⟩:∃d2:Nat,1+c % 2=(d2:Int):=⟨(1+c % 2).toNat,∅⟩;refine⟨_,rfl,_,_,rfl,rfl,⟨nofun,nofun⟩,_,rfl,_,_,rfl,rfl,(by show (0:Int) < 2;decide),_,_,rfl,rfl,_,rfl,?_⟩;refine⟨_,d2,W,ws,(by show [_,V.int (1+c % 2),_]=_;rw [hd2]),∅,x9 _ _ hW,Z0,∅,λp6 wx H6 s6 e6 l6 ZW=>?_⟩;have FQ:=x9.trans s6;refine⟨_,rfl,_,rfl,_,_,rfl,rfl,N,_,_,_,rfl,rfl,aG.of (FQ _ _ hN),Ys,xE,λu hu=>?_⟩;have k7:=af hu (.tup [V.str n']);refine⟨p6,u,_,_,rfl,rfl,k7.tup (aR.of e6),aR.of ae,(by rw [av];show wx.length+1<=sizeLine;exact fits ∅),λp8 H8 s8 e8=>?_⟩;have X1:aR K H8 p8 ((wx++[n']).map V.str):=by rw [bG];exact e8
    have ON:=s6.trans (k7.trans s8);have SO:wx≠[]:=λz=>by rw [z] at l6;simp at l6;omega
    refine⟨_,rfl,_,_,rfl,rfl,⟨nofun,nofun⟩,_,_,rfl,rfl,(by show (0:Int) < 2;decide),rfl,_,rfl,?_⟩;refine cE (λc2=>?_) (λc2=>?_)
    .refine⟨_,rfl,_,rfl,_,rfl,p8,_,rfl,X1,λp9 H9 s9 e9=>?_⟩;rw [Ie] at e9;refine⟨_,rfl,_,rfl,_,rfl,p8,_,rfl,s9.tup X1,λpA HA sA eA=>?_⟩;rw [Ih] at eA;refine⟨p9,pA,_,_,rfl,rfl,sA.tup e9,eA,(by rw [av];show 1+wx.length<=sizeLine;exact fits ∅),λpB HB sB eB=>?_⟩;exact⟨pB,n'::wx,rfl,ON.trans (s9.trans (sA.trans sB)),eB,.inl ⟨n',wx,Ke,SO,ZW,∅,.inr rfl⟩⟩
    exact⟨p8,wx++[n'],rfl,ON,X1,.inl ⟨n',wx,Ke,SO,ZW,∅,.inl rfl⟩⟩
   have ge:¬(0+(i:Int)+1 < ((eX.map V.str).length:Int)):=λz=>cc (bN z);rw [av] at ge;exact⟨p,ps,rfl,aB.refl _,aR.of e4,.inr ⟨∅,uk,∅⟩⟩
  rintro σ H5 ⟨p5,bD,rfl,s5,e5,sk⟩;have B4:=x9.trans s5;have Ei:=s5 _ _ O_;refine⟨_,rfl,.inl ⟨rfl,_,aG.of Ei⟩,_,rfl,_,rfl,N,_,_,_,rfl,rfl,aG.of (B4 _ _ hN),atn,_,rfl,oK,λR hR=>?_⟩;have k6:=af hR (.tup [.str nm,.ref p5]);have v1:aR K (upd H5 R (.tup [.str nm,.ref p5])) R [.str nm,.ref p5]:=aR.of ae;have v2:=k6.tup e5;generalize upd H5 R (.tup [.str nm,.ref p5])=H6 at k6 v1 v2;have HY:=k6 _ _ Ei;refine⟨L,_,_,rfl,rfl,HY,bF (by rw [av];omega),?_⟩;refine⟨rs++[R],aa++[(nm,bD)],_,_,_,rfl,λb o hb=>?_,by rw [ae,bG];rfl,gX ((EN.same (s5.trans k6)).keep λb xs z=>aW HY z) ⟨p5,aW HY v1,aW HY v2⟩,by rw [bp,hl];rfl,λj ru e=>?_⟩
  .rw [ai (λz=>by rw [z,hL] at hb;cases hb)];exact k6 _ _ (B4 b o hb)
  by_cases cj:j < aa.length
  .rw [qd cj] at e;exact hf j ru e
  have lj:=(bj.mp e).1;rw [bp,d_] at lj;have ej:j=aa.length:=by omega
  subst ej;rw [nv (aD _),Nat.sub_self] at e;cases e;rw [hl];exact⟨NC,sk⟩
 rintro σ H3 ⟨rs,aa,y5,y6,y7,rfl,s3,eL,rl,hl,hf⟩;exact⟨_,rfl,q L rs aa H3 hL s3 eL rl hl hf⟩
end
end gT
namespace L2
open PySem
def jd {X:Cx}(K:a8)(hK:X.K=K:=by rfl):kJ X (compareOp .NotIn) (Tg K true):=by
 subst hK;exact jO
def gk (h:Str) (zs:List Str):Nv (.str h) (zs.map V.str)=decide (h∈zs):=by
 have:Nv (.str h) (zs.map V.str)=true↔h∈zs:=by
  unfold Nv;rw [List.any_eq_true];constructor
  .rintro⟨x,h1,h2⟩;obtain⟨z,hz,rfl⟩:=cy.mp h1;have:z=h:=by simpa [u3] using h2
   rw [<-this];exact hz
  intro hm;exact⟨.str h,cy.mpr ⟨h,hm,rfl⟩,by simp [u3]⟩
 by_cases c:h∈zs
 .rw [bN c];exact this.mpr c
 rw [cV c];cases e:Nv (.str h) (zs.map V.str) with
 | false=>rfl
 | true=>exact absurd (this.mp e) c
def di (zs:List Str):(zs.map V.str).all gZ=true:=by
 rw [gr];intro x hx;obtain⟨z,_,rfl⟩:=cy.mp hx;rfl
section
variable {K:a8}{H:Hp}{p D:Addr}{zs:List Str}{σ:St}{x:Str}{js:List (Nat×Str)}{te:TE}{Qp:Hp->Prop}
def lI (rest:St)(pr:Str->Bool)(hc:dO [x] js σ=none::rest)(hp:aR K H p (zs.map V.str))(hz:zs.length<=1000)(hD:H D=none)
  (Q5:∀z∈zs,∀(H':Hp)(Qy:VK),aB H H'->Qy (.bl (pr z)) H'->te (some (.str z)::rest) H' Qy)
  (q:∀H2,aB H H2->H2 D=some (.lst ((zs.map pr).map V.bl))->Qp H2) :
  ∃W:Nat->Nat->List V->St->Hp->Prop,(∃m,W 0 m [] (dO [x] js σ) (upd H D (.lst []))) /\
 ∀i m ys σ' H,W i m ys σ' H->((oJ K p).stop i H/\Qp H)\/((oJ K p).go i H/\∃m',m' < m/\∀x H',(oJ K p).mE i H x H'->dM 0 x σ' H' λσ2 H2=>hX σ2 H2 λb H3 =>
  if b=true then te σ2 H3 λy H4=>H4 D=some (.lst ys)/\ys.length < sizeLine/\W (i+1) m' (ys++[y]) σ2 (upd H4 D (.lst (ys++[y]))) else W (i+1) m' ys σ2 H3):=by
 refine gB (xs:=zs.map V.str) (λi ys σ2 H2=>ys=((zs.take i).map pr).map V.bl/\(∃y0,σ2=y0::rest)/\aB H H2/\H2 D=some (.lst ys))
  ⟨rfl,⟨none,hc⟩,af hD _,ae⟩ (λi ys σ2 H2 _ h=>?_) (λi v ys σ2 H2 ex h=>?_) (λys σ2 H2 h=>?_)
 .obtain⟨_,_,sm,_⟩:=h;exact sm.tup hp
 .obtain⟨rfl,⟨y0,rfl⟩,sm,hd⟩:=h;rw [bo] at ex;obtain⟨z,ez,rfl⟩:=cg.mp ex;have li:=(bj.mp ez).1;refine goN (yE (Q5 z (b8 ez) _ _ sm ⟨hd,bF (by rw [av,av,dD];omega),?_,⟨_,rfl⟩,λb o hb=>?_,ae⟩))
  .rw [cQ,ez,bG,bG];rfl
  rw [ai (λz=>by rw [z,hD] at hb;cases hb)];exact sm b o hb
 obtain⟨rfl,_,sm,hd⟩:=h;rw [av,cP] at hd;exact q H2 sm hd
def qo (rest:St)(pr:Str->Bool)(hc:dO [x] js σ=none::rest)(hp:aG K H p (zs.map V.str))(hz:zs.length<=1000)(hD:H D=none)
  (Q5:∀z∈zs,∀(H':Hp)(Qy:VK),aB H H'->Qy (.bl (pr z)) H'->te (some (.str z)::rest) H' Qy)
  (q:∀H2,aB H H2->H2 D=some (.lst ((zs.map pr).map V.bl))->Qp H2) :
  ∃W:Nat->Nat->List V->St->Hp->Prop,(∃m,W 0 m [] (dO [x] js σ) (upd H D (.lst []))) /\
 ∀i m ys σ' H,W i m ys σ' H->((kn K p).stop i H/\Qp H)\/((kn K p).go i H/\∃m',m' < m/\∀x H',(kn K p).mE i H x H'->dM 0 x σ' H' λσ2 H2=>hX σ2 H2 λb H3 =>
  if b=true then te σ2 H3 λy H4=>H4 D=some (.lst ys)/\ys.length < sizeLine/\W (i+1) m' (ys++[y]) σ2 (upd H4 D (.lst (ys++[y]))) else W (i+1) m' ys σ2 H3):=by
 refine cI (xs:=zs.map V.str) (λi ys σ2 H2=>ys=((zs.take i).map pr).map V.bl/\(∃y0,σ2=y0::rest)/\aB H H2/\H2 D=some (.lst ys))
  ⟨rfl,⟨none,hc⟩,af hD _,ae⟩ (λi ys σ2 H2 _ h=>?_) (λi v ys σ2 H2 ex h=>?_) (λys σ2 H2 h=>?_)
 .obtain⟨_,_,sm,_⟩:=h;exact sm.seq hp
 .obtain⟨rfl,⟨y0,rfl⟩,sm,hd⟩:=h;rw [bo] at ex;obtain⟨z,ez,rfl⟩:=cg.mp ex;have li:=(bj.mp ez).1;refine goN (yE (Q5 z (b8 ez) _ _ sm ⟨hd,bF (by rw [av,av,dD];omega),?_,⟨_,rfl⟩,λb o hb=>?_,ae⟩))
  .rw [cQ,ez,bG,bG];rfl
  rw [ai (λz=>by rw [z,hD] at hb;cases hb)];exact sm b o hb
 obtain⟨rfl,_,sm,hd⟩:=h;rw [av,cP] at hd;exact q H2 sm hd
end
theorem all_map (zs:List Str)(pr:Str->Bool):(zs.map pr).all id=zs.all pr:=by
 rw [List.all_map];rfl
end L2
namespace gT
open PySem M11
abbrev hm (aa:List au):List Str:=aa.map (·.1)
structure Small (aa:List au):Prop where
 one:1<=aa.length
 most:aa.length<=8
 A4:∀ru∈aa,ru.2.length<=4
open PySem L2 M11
section
def jV {H:Hp}{R D:Addr}{rs:List Addr}{aa:List au}{σ:St}{Qp:Hp->Prop}(hR:aG K H R (rs.map V.ref))(cT:bJ K H rs aa)(br:aa.length<=1000)(hD:H D=none)
  (q:∀H2,aB H H2->H2 D=some (.lst ((hm aa).map V.str))->Qp H2) :
  ∃W:Nat->Nat->List V->St->Hp->Prop,(∃m,W 0 m [] (dO ["_law_head","_law_parts"] [] σ) (upd H D (.lst []))) /\
 ∀i m ys σ' H,W i m ys σ' H->((kn K R).stop i H/\Qp H)\/((kn K R).go i H/\∃m',m' < m/\∀x H',(kn K R).mE i H x H'->AZ K 2 (ju (dM 0) (ju (dM 1) DV)) x σ' H' λσ2 H2=>hX σ2 H2 λb H3 =>
  if b=true then gE 0 σ2 H3 λy H4=>H4 D=some (.lst ys)/\ys.length < sizeLine/\W (i+1) m' (ys++[y]) σ2 (upd H4 D (.lst (ys++[y]))) else W (i+1) m' ys σ2 H3):=by
 have ll:=a_ cT;refine cI (xs:=rs.map V.ref) (λi ys σ2 H2=>ys=((hm aa).take i).map V.str/\(∃y0 y1,σ2=[y0,y1])/\aB H H2/\H2 D=some (.lst ys))
  ⟨rfl,⟨none,none,rfl⟩,af hD _,ae⟩ (λi ys σ2 H2 _ h=>?_) (λi x ys σ2 H2 ex h=>?_) (λys σ2 H2 h=>?_)
 .obtain⟨_,_,sm,_⟩:=h;exact sm.seq hR
 .obtain⟨rfl,⟨y0,y1,rfl⟩,sm,uW⟩:=h;rw [bo] at ex;obtain⟨r,er,rfl⟩:=cg.mp ex;obtain⟨ru,e1,p,v1,v2⟩:=cT.get er;have li:=(bj.mp e1).1;refine⟨r,_,rfl,sm.tup v1,rfl,_,_,rfl,_,_,rfl,rfl,?_⟩;refine yE ?_;refine⟨_,rfl,uW,bF (by rw [av,dD];omega),?_,⟨_,_,rfl⟩,λb o hb=>?_,ae⟩
  .have:(hm aa)[i]?=some ru.1:=by unfold hm;rw [bo,e1];rfl
   rw [cQ,this,bG];rfl
  rw [ai (λz=>by rw [z,hD] at hb;cases hb)];exact sm b o hb
 obtain⟨rfl,_,sm,uW⟩:=h;rw [av,ll,qX (by unfold hm;rw [av];exact aD _)] at uW;exact q H2 sm uW
def BU (K:a8):Sp:=λvs H Q _=>∃(R:Addr)(rs:List Addr)(aa:List au)(b:Bool),vs=[.ref R,.bl b]/\aG K H R (rs.map V.ref)/\bJ K H rs aa/\Small aa /\
 ∀(D:Addr)(H':Hp),H D=none->aB H H'->H' D=some (.lst ((cH b aa).map V.str))->(cH b aa).length<=64->Q (.ref D) H'
abbrev NE:List Str:=["_law_rules","_law_words_here","_law_head","_law_parts","_law_heads","_law_ended_here","_law_again","_law_good_here"]
def jJ:aI NE ["_law_rules","_law_words_here"] (ay z9):=iT rfl rfl rfl rfl nofun
def GK (F:iz K "_law_ended" "_law_ended" z9 f fd)(T:Txt mg):bR P w K mg base fY 1 f fd ["_law_rules","_law_words_here"] (BU K):=by
 refine F.ok jJ (λvs H Q E h=>?_) (λeK A outer s H vs Q E hr h=>?_)
 .obtain⟨R,rs,aa,b,rfl,_⟩:=h;rfl
 obtain⟨R,rs,aa,b,rfl,hR,cT,DK,q⟩:=h;have WB:=DK.one;have WA:=DK.most;refine⟨_,aj (aC (i:=4) jJ.nd rfl (Or.inr rfl) (ba ["_law_head","_law_parts"] [] rfl (aX (pv 0)) (a9 rfl rfl) nofun rfl nofun
   (λ_ _ _ _ _=>ff (n:=2) K rfl (aA (ao (i:=0) (show (["_law_head","_law_parts"]:List Str).Nodup by decide +kernel) rfl (bB rfl)) (aA (ao (i:=1) (show (["_law_head","_law_parts"]:List Str).Nodup by decide +kernel) rfl (bB rfl)) bV))) (λ_ _ _ _ _=>bQ)
   (λ_ _ _ _ _=>pv 0)))
  (aj (aC (i:=5) jJ.nd rfl (Or.inr rfl) (bA ah))
  (aj (bK b9 rfl (aX (pv 0)) (ao (i:=6) jJ.nd rfl (bB rfl))
   (ak (bK b9 rfl (aX (pv 0)) (ff (n:=2) K rfl (aA (ao (i:=2) jJ.nd rfl (bB rfl)) (aA (ao (i:=3) jJ.nd rfl (bB rfl)) bV)))
    (aj (aC (i:=7) jJ.nd rfl (bB rfl) (aF (gC rfl) rfl T.all boot_all (ab
      (ba ["_law_part"] [(5,"_law_ended_here"),(4,"_law_heads"),(1,"_law_words_here")] rfl (fI (pv 3)) (a9 rfl rfl) nofun rfl nofun
       (λ_ _ _ _ _=>ao (i:=0) (show (["_law_part","_law_ended_here","_law_heads","_law_words_here"]:List Str).Nodup by decide +kernel) rfl (bB rfl)) (λ_ _ _ _ _=>bQ)
       (λ_ _ _ _ _=>K_ (fg (gp K) (pv 0) (pv 1) rfl) (jM (jN (pv 3) (jM (fg (jd K) (pv 0) (pv 2) rfl)))))) ah)))
    (ak (bU (PW.pt (jb (dG (pv 7)) (iA (bw jO (pv 2) (pv 5) rfl))))
     (ak (cC (gR f_ gK gL bM (pv 5) (ab (pv 2) ah)))) aS))))))
  (ak (aQ (pv 5))))),?_⟩
 nofun
 refine⟨_,rfl,R,rfl,⟨_,hR⟩,λD hD=>jV hR cT ∅ hD λH1 s1 eD=>?_⟩;refine goN ?_
 ac_rfl
 refine⟨rM,λL hL=>?_⟩;have s2:=s1.trans (af hL (.lst []));have HZ:=af hL (.lst []) _ _ eD;have nL:L≠D:=λz=>by rw [z,eD] at hL;cases hL
 have fL:H L=none:=s1.free hL;have e2:upd H1 L (.lst []) L=some (.lst []):=ae;generalize upd H1 L (.lst [])=H2 at s2 HZ e2;refine goN ?_
 ac_rfl
 have ll:=a_ cT
 let qF:pU:=λi σ H3=>∃(es:List Str)(y2 y3 y6 y7:Option V),σ=[aM R,some (.bl b),y2,y3,aM D,aM L,y6,y7]/\aB H H3/\H3 D=some (.lst ((hm aa).map V.str))/\H3 L=some (.lst (es.map V.str))/\es=passes (λe=>fV b (hm aa) e aa) i []/\es.length<=8 * i
 refine⟨_,rfl,R,rfl,⟨_,s2.seq hR⟩,cR (xs:=rs.map V.ref) qF ⟨[],_,_,_,_,rfl,s2,HZ,e2,rfl,by simp⟩ ?_ ?_ ?_⟩
 .rintro i σ H3 _ ⟨es,y2,y3,y6,y7,rfl,s3,_⟩;exact s3.seq hR
 .intro i x σ H3 ex lD
  ac_nf0
  obtain⟨es,y2,y3,y6,y7,rfl,s3,Ja,XU,he,DO⟩:=lD;have li:=(bj.mp ex).1;rw [av] at li;refine goN ?_
  ac_nf
  let Bq:pU:=λj σ H4=>∃(ik:List Str)(y2 y3 y7:Option V),σ=[aM R,some (.bl b),y2,y3,aM D,aM L,some x,y7]/\aB H H4/\H4 D=some (.lst ((hm aa).map V.str))/\H4 L=some (.lst (ik.map V.str))/\ik=fV b (hm aa) es (aa.take j)/\ik.length<=8 * i+j
  refine⟨_,rfl,R,rfl,⟨_,s3.seq hR⟩,cR (xs:=rs.map V.ref) Bq ⟨es,_,_,_,rfl,s3,Ja,XU,rfl,∅⟩ ?_ ?_ ?_⟩
  .rintro j σ H4 _ ⟨ik,y2,y3,y7,rfl,s4,_⟩;exact s4.seq hR
  .intro j x2 σ H4 pO lD
   ac_nf0
   obtain⟨ik,y2,y3,y7,rfl,s4,Ej,O_,AU,Rv⟩:=lD;have lj:=(bj.mp pO).1;rw [av] at lj;rw [bo] at pO;obtain⟨r,er,rfl⟩:=cg.mp pO;obtain⟨ru,e1,p,v1,v2⟩:=cT.get er;have iS:=DK.A4 ru (b8 e1);refine⟨r,_,rfl,s4.tup v1,rfl,_,_,rfl,_,_,rfl,rfl,?_⟩;refine⟨_,rfl,p,rfl,⟨_,s4.tup v2⟩,λD2 i5=>lI (zs:=ru.2) [aM L,aM D,some (.bl b)] (λz=>decide (z∈ik) || (b && !decide (z∈hm aa))) rfl (s4.tup v2) ∅ i5 (λz _ H5 Qy s5 hq=>?_) λH5 s5 Pa=>?_⟩
   .refine⟨_,rfl,_,rfl,L,_,rfl,.inl (aG.of (s5 _ _ O_)),rfl,di _,?_⟩;refine⟨_,rfl,?_⟩;rw [gk];show if decide (z∈ik)=true then _ else _;refine cE (λc=>?_) (λc=>?_)
    .rw [c] at hq;exact hq
    have c':decide (z∈ik)=false:=by simpa using c
    rw [c',Bool.false_or] at hq;refine⟨_,rfl,b,rfl,?_⟩;refine cE (λcb=>?_) (λcb=>?_)
    .rw [cb,j5] at hq;refine⟨_,rfl,_,rfl,D,_,rfl,.inl (aG.of (s5 _ _ Ej)),rfl,di _,?_⟩;rw [gk];exact hq
    have cb':b=false:=by simpa using cb
    rw [cb',q9] at hq;exact hq
   refine⟨D2,_,rfl,aG.of Pa,?_⟩;rw [all_map];refine goN ?_
   ac_rfl
   have ua:=s4.trans s5;have Ei:=s5 _ _ O_;have pe:fV b (hm aa) es (aa.take (j+1))=dF b (hm aa) ik ru:=by
    rw [AU,cQ,e1];unfold fV;rw [vB];rfl
   refine⟨_,rfl,_,rfl,?_⟩;refine cE (λc=>?_) (λc=>?_)
   .refine⟨_,rfl,_,rfl,L,_,rfl,.inl (aG.of Ei),rfl,di _,_,rfl,?_⟩;rw [gk];show if (!decide (ru.1∈ik))=true then _ else _;refine cE (λc2=>?_) (λc2=>?_)
    .refine⟨_,rfl,.inl ⟨rfl,_,aG.of Ei⟩,_,rfl,L,_,_,rfl,rfl,Ei,bF (by rw [av];omega),?_⟩;refine⟨ik++[ru.1],_,_,_,rfl,λb o hb=>?_,by rw [ai (fq nL)];exact s5 _ _ Ej,by rw [ae,bG];rfl,?_,by rw [bp];simp;omega⟩
     .rw [ai (λz=>by rw [z,fL] at hb;cases hb)];exact ua b o hb
     rw [pe];unfold dF;rw [c,j5,ax c2]
    refine⟨ik,_,_,_,rfl,ua,s5 _ _ Ej,Ei,?_,∅⟩;rw [pe];unfold dF;rw [c,j5,aw c2]
   refine⟨ik,_,_,_,rfl,ua,s5 _ _ Ej,Ei,?_,∅⟩;rw [pe];unfold dF;rw [aw (λz=>c (fk.mp z).1)]
  rintro σ H4 ⟨ik,y2,y3,y7,rfl,s4,Ej,O_,AU,Rv⟩;rw [av,ll] at Rv;rw [av,ll,cP] at AU;exact⟨ik,_,_,_,_,rfl,s4,Ej,O_,by rw [AU,he];rfl,∅⟩
 rintro σ H3 ⟨es,y2,y3,y6,y7,rfl,s3,Ja,XU,he,DO⟩;rw [av,ll] at he DO;refine⟨_,rfl,?_⟩;have e:cH b aa=es:=he.symm;exact q L H3 fL s3 (by rw [e];exact XU) (by rw [e];omega)
end
def u6 (zs:List Str) (j:Nat):gq (zs.map V.str) none (some (0+(j:Int)))=(zs.take j).map V.str:=by
 rw [jZ];unfold gq;rw [HT.jl,HT.qK,q_,mq,av,oQ]
 conv=>rhs;rw [List.take_eq_take_min,av]
def Eu (zs:List Str) (j:Nat):gq (zs.map V.str) (some (0+(j:Int)+1)) none=(zs.drop (j+1)).map V.str:=by
 rw [jZ,show (j:Int)+1=((j+1:Nat):Int) by push_cast;rfl];unfold gq;rw [HT.jl,HT.qK,av,List.map_drop];by_cases h:j+1<=zs.length
 .rw [Nat.min_eq_left h,qX (by rw [mw,av];exact aD _)]
 rw [Nat.min_eq_right ∅,Nat.sub_self,oU,List.drop_eq_nil_of_le (by rw [av];omega)]
def Bo (aa:List au) (ms:List Str):Prop:=∀(i:Nat)(h:Str),ms[i]?=some h->(∃lZ,aa[0]?=some lZ/\h=lZ.1)\/∃ru∈aa,ru.1∈ms.take i/\h∈ru.2
def IC (aa:List au)(ru:au) (j:Nat)(z:Str):Prop:=ru.2[j]?=some z/\z∈hm aa/\∀(k:Nat)(y:Str),k≠j->ru.2[k]?=some y->y∈cH false aa
def PlO (aa:List au) (cs:List Str):Prop:=∀(i:Nat)(h:Str),cs[i]?=some h->∀ru∈aa,ru.1=h->∀(j:Nat)(z:Str),IC aa ru j z->z∈cs.take i
structure CK (aa:List au) (ms cs:List Str):Prop where
 en:∀z∈hm aa,z∈cH true aa
 mo:Bo aa ms
 ma:∀z∈hm aa,z∈ms
 cn:cs.Nodup
 ch:∀x∈cs,x∈hm aa
 co:PlO aa cs
 ca:∀z∈hm aa,z∈cs
def Bo.app {aa:List au}{ms zs:List Str}{ru:au}(h:Bo aa ms)(hr:ru∈aa)(h1:ru.1∈ms)(h2:∀z∈zs,z∈ru.2):Bo aa (ms++zs):=by
 intro i x hx;by_cases l:i < ms.length
 .rw [qd l] at hx;rcases h i x hx with a | ⟨r,a,b,c⟩
  .exact .inl a
  exact .inr ⟨r,a,by rw [qe ∅];exact b,c⟩
 rw [nv ∅] at hx;refine .inr ⟨ru,hr,?_,h2 x (b8 hx)⟩;rw [List.take_append,qX ∅];exact iH _ h1
def YQ (aa:List au)(ri:List au)(gF:List (Str×Str)):Prop:=∀ru∈ri,∀(j:Nat)(z:Str),IC aa ru j z->(ru.1,z)∈gF
structure Pu (aa:List au)(gF:List (Str×Str)) (cs:List Str):Prop where
 cn:cs.Nodup
 ch:∀x∈cs,x∈hm aa
 co:∀(i:Nat)(h:Str),cs[i]?=some h->∀z,(h,z)∈gF->z∈cs.take i
def Pu.add {aa:List au}{gF:List (Str×Str)}{cs:List Str}{nm:Str}(h:Pu aa gF cs)(n:nm∉cs)(hh:nm∈hm aa)(a:∀z,(nm,z)∈gF->z∈cs):Pu aa gF (cs++[nm]):=by
 refine⟨j9.mpr ⟨h.cn,by simp,λx hx y hy z=>n (by rw [<-bC.mp hy,<-z];exact hx)⟩,λx hx=>?_,λi x hx z hz=>?_⟩
 .rcases cq.mp hx with q | q
  .exact h.ch x q
  rw [bC.mp q];exact hh
 by_cases l:i < cs.length
 .rw [qd l] at hx;rw [qe ∅];exact h.co i x hx z hz
 have li:=(bj.mp hx).1;rw [bp,d_] at li;have:i=cs.length:=by omega
 subst this;rw [nv (aD _),Nat.sub_self] at hx;cases hx;rw [qe (aD _),cP];exact a z hz
section
def Ft (K:a8):Sp:=λvs H Q _=>∃(R:Addr)(rs:List Addr)(aa:List au),vs=[.ref R]/\aG K H R (rs.map V.ref)/\bJ K H rs aa/\Small aa /\
 ∀(b:Bool)(H':Hp),aB H H'->(b=true->∃ms cs,CK aa ms cs)->Q (.bl b) H'
abbrev NG:List Str:=["_law_rules","_law_head","_law_parts","_law_heads","_law_ended_here","_law_met","_law_again","_law_empty","_law_alone","_law_k","_law_others","_law_placed","_law_name","_law_later"]
def eZ:aI NG ["_law_rules"] (ay FK):=iT rfl rfl rfl rfl nofun
def JS (F:iz K "_law_good" "_law_good" FK f fd)(T:Txt mg)(GE:aE P w K mg base 1 "_law_ended" ["_law_rules","_law_words_here"] (BU K)):bR P w K mg base fY 2 f fd ["_law_rules"] (Ft K):=by
 refine F.ok eZ (λvs H Q E h=>?_) (λeK A outer s H vs Q E hr h=>?_)
 .obtain⟨R,rs,aa,rfl,_⟩:=h;rfl
 obtain⟨R,rs,aa,rfl,hR,cT,DK,q⟩:=h;have WB:=DK.one;have WA:=DK.most;refine⟨_,aj (aC (i:=3) eZ.nd rfl (Or.inr rfl) (ba ["_law_head","_law_parts"] [] rfl (aX (pv 0)) (a9 rfl rfl) nofun rfl nofun
   (λ_ _ _ _ _=>ff (n:=2) K rfl (aA (ao (i:=0) (show (["_law_head","_law_parts"]:List Str).Nodup by decide +kernel) rfl (bB rfl)) (aA (ao (i:=1) (show (["_law_head","_law_parts"]:List Str).Nodup by decide +kernel) rfl (bB rfl)) bV))) (λ_ _ _ _ _=>bQ)
   (λ_ _ _ _ _=>pv 0)))
  (aj (aC (i:=4) eZ.nd rfl (Or.inr rfl) (bc GE hr rfl (ab (pv 0) (ab dW ah))))
  (aj (aC (i:=5) eZ.nd rfl (Or.inr rfl) (fJ jH (pv 3) hJ (fc ar)))
  (aj (bK b9 rfl (aX (pv 0)) (ao (i:=6) eZ.nd rfl (bB rfl))
   (ak (bK b9 rfl (aX (pv 0)) (ff (n:=2) K rfl (aA (ao (i:=1) eZ.nd rfl (bB rfl)) (aA (ao (i:=2) eZ.nd rfl (bB rfl)) bV)))
    (ak (bU (bw pG (pv 1) (pv 5) rfl)
     (ak (aC (i:=5) eZ.nd rfl (Or.inr rfl) (aZ jP (pv 5)
      (ba ["_law_part"] [(3,"_law_heads"),(5,"_law_met")] rfl (fI (pv 2)) (a9 rfl rfl) nofun rfl nofun
       (λ_ _ _ _ _=>ao (i:=0) (show (["_law_part","_law_heads","_law_met"]:List Str).Nodup by decide +kernel) rfl (bB rfl))
       (λ_ _ _ _ _=>hU (PW.pt (jb (bw (gp K) (pv 0) (pv 1) rfl) (iA (bw (jd K) (pv 0) (pv 2) rfl)))))
       (λ_ _ _ _ _=>pv 0))))) aS)))))
  (aj (aC (i:=7) eZ.nd rfl (Or.inr rfl) (bc GE hr rfl (ab (pv 0) (ab dW ah))))
  (aj (aC (i:=8) eZ.nd rfl (bB rfl) (bA ah))
  (aj (bK b9 rfl (aX (pv 0)) (ff (n:=2) K rfl (aA (ao (i:=1) eZ.nd rfl (bB rfl)) (aA (ao (i:=2) eZ.nd rfl (bB rfl)) bV)))
   (ak (bK b9 rfl (gy rfl T.C8 (ab (aF aK rfl T.len dJ (ab (pv 2) ah)) ah)) (ao (i:=9) eZ.nd rfl (bB rfl))
    (aj (aC (i:=10) eZ.nd rfl (bB rfl) (aZ wK (fJ qJ (pv 2) hJ (fc (pv 9))) (fJ qJ (pv 2) (fc (aZ fZ (pv 9) ar)) hJ)))
    (ak (bU (PW.pt (jb (bw pG (aP bq (pv 2) (pv 9) (λ_ _=>rfl)) (pv 3) rfl) (iA (dG (aF (gC rfl) rfl T.all boot_all (ab
      (ba ["_law_part"] [(7,"_law_empty")] rfl (fI (pv 10)) (a9 rfl rfl) nofun rfl nofun
       (λ_ _ _ _ _=>ao (i:=0) (show (["_law_part","_law_empty"]:List Str).Nodup by decide +kernel) rfl (bB rfl)) (λ_ _ _ _ _=>bQ)
       (λ_ _ _ _ _=>fg (gp K) (pv 0) (pv 1) rfl)) ah))))))
     (ak (cC (gR f_ gK gL bM (pv 8) (ab (bS (ab (pv 1) (ab (aP bq (pv 2) (pv 9) (λ_ _=>rfl)) ah))) ah)))) aS))))))
  (aj (aC (i:=11) eZ.nd rfl (Or.inr rfl) (bA ah))
  (aj (bK b9 rfl (aX (pv 0)) (ao (i:=6) eZ.nd rfl (bB rfl))
   (ak (bK b9 rfl (aX (pv 3)) (ao (i:=12) eZ.nd rfl (Or.inr rfl))
    (aj (jL (iy:=13) ["_law_pair"] [(12,"_law_name")] eZ.nd rfl rfl rfl (aX (pv 8)) (a9 rfl rfl) nofun rfl nofun
      (λ_ _ _ _ _=>ao (i:=0) (show (["_law_pair","_law_name"]:List Str).Nodup by decide +kernel) rfl (bB rfl))
      (λ_ _ _ _ _=>hU (bw iO (aP (jT K) (pv 0) ar (λ_ _=>rfl)) (pv 1) (bW _))) (λ_ _ _ _ _=>aP (jT K) (pv 0) ar (λ_ _=>rfl)))
    (ak (bU (PW.pt (jb (dG (aF (gC rfl) rfl T.all boot_all (ab
      (ba ["_law_other"] [(11,"_law_placed")] rfl (aX (pv 13)) (a9 rfl rfl) nofun rfl nofun
       (λ_ _ _ _ _=>ao (i:=0) (show (["_law_other","_law_placed"]:List Str).Nodup by decide +kernel) rfl (bB rfl)) (λ_ _ _ _ _=>bQ)
       (λ_ _ _ _ _=>fg (gp K) (pv 0) (pv 1) rfl)) ah))) (iA (bw jO (pv 12) (pv 11) rfl))))
     (ak (cC (gR f_ gK gL bM (pv 11) (ab (pv 12) ah)))) aS))))))
  (ak (aQ (aF (gC rfl) rfl T.all boot_all (ab
   (ba ["_law_name"] [(4,"_law_ended_here"),(5,"_law_met"),(11,"_law_placed")] rfl (aX (pv 3)) (a9 rfl rfl) nofun rfl nofun
    (λ_ _ _ _ _=>ao (i:=0) (show (["_law_name","_law_ended_here","_law_met","_law_placed"]:List Str).Nodup by decide +kernel) rfl (bB rfl)) (λ_ _ _ _ _=>bQ)
    (λ_ _ _ _ _=>jN (fg (gp K) (pv 0) (pv 1) rfl) (jN (fg (gp K) (pv 0) (pv 2) rfl) (jM (fg (gp K) (pv 0) (pv 3) rfl))))) ah)))))))))))),?_⟩
 nofun
 have ll:=a_ cT;refine⟨_,rfl,R,rfl,⟨_,hR⟩,λD hD=>jV hR cT ∅ hD λH1 s1 eD=>?_⟩;refine goN ?_
 ac_rfl
 refine⟨_,rfl,R,rs,aa,true,rfl,s1.seq hR,cT.same s1,DK,λEn H2 fE s2 eE lE=>?_⟩;refine goN ?_
 ac_rfl
 have XG:gq ((hm aa).map V.str) none (some 1)=((hm aa).take 1).map V.str:=u6 (hm aa) 1;have Lw:(hm aa).length=aa.length:=by unfold hm;rw [av]
 refine⟨_,rfl,_,rfl,D,_,rfl,aG.of (s2 _ _ eD),λM0 hM0=>?_⟩;rw [XG];have lm0:((hm aa).take 1).length<=1:=by rw [dD];omega
 have ZC:Bo aa ((hm aa).take 1):=λi h e=>by
  have li:=(bj.mp e).1;have:i=0:=by omega
  subst this;rw [rL ∅] at e;rw [bo] at e;obtain⟨r0,e0,rfl⟩:=cg.mp e;exact .inl ⟨r0,e0,rfl⟩
 generalize (hm aa).take 1=m0 at lm0 ZC;have k3:=af hM0 (.lst (m0.map V.str));have s3:=(s1.trans s2).trans k3;have Ja:=k3 _ _ (s2 _ _ eD);have XW:=k3 _ _ eE;have eM3:upd H2 M0 (.lst (m0.map V.str)) M0=some (.lst (m0.map V.str)):=ae;generalize upd H2 M0 (.lst (m0.map V.str))=H3 at k3 s3 Ja XW eM3;refine goN ?_
 ac_rfl
 let qF:pU:=λi σ H4=>∃(M:Addr) (ms:List Str)(y1 y2 y6:Option V),σ=[aM R,y1,y2,aM D,aM En,aM M,y6,none,none,none,none,none,none,none]/\aB H3 H4/\H4 M=some (.lst (ms.map V.str))/\ms.length<=8+40 * i/\Bo aa ms
 refine⟨_,rfl,R,rfl,⟨_,s3.seq hR⟩,cR (xs:=rs.map V.ref) qF ⟨M0,m0,_,_,_,rfl,λ_ _ h=>h,eM3,∅,ZC⟩ ?_ ?_ ?_⟩
 .rintro i σ H4 _ ⟨M,ms,y1,y2,y6,rfl,s4,_⟩;exact s4.seq (s3.seq hR)
 .intro i x σ H4 ex lD
  ac_nf0
  obtain⟨M,ms,y1,y2,y6,rfl,s4,eM,lM,mO⟩:=lD;have li:=(bj.mp ex).1;rw [av] at li;refine goN ?_
  ac_nf
  let Bq:pU:=λj σ H5=>∃(M:Addr) (ms:List Str)(y1 y2:Option V),σ=[aM R,y1,y2,aM D,aM En,aM M,some x,none,none,none,none,none,none,none]/\aB H3 H5/\H5 M=some (.lst (ms.map V.str))/\ms.length<=8+40 * i+4 * j/\Bo aa ms
  refine⟨_,rfl,R,rfl,⟨_,s4.seq (s3.seq hR)⟩,cR (xs:=rs.map V.ref) Bq ⟨M,ms,_,_,rfl,s4,eM,∅,mO⟩ ?_ ?_ ?_⟩
  .rintro j σ H5 _ ⟨M,ms,y1,y2,rfl,s5,_⟩;exact s5.seq (s3.seq hR)
  .intro j x2 σ H5 pO lD
   ac_nf0
   obtain⟨M,ms,y1,y2,rfl,s5,eM,lM,mO⟩:=lD;have lj:=(bj.mp pO).1;rw [av] at lj;rw [bo] at pO;obtain⟨r,er,rfl⟩:=cg.mp pO;obtain⟨ru,e1,p,v1,v2⟩:=cT.get er;have iS:=DK.A4 ru (b8 e1);have B4:=s3.trans s5;refine⟨r,_,rfl,B4.tup v1,rfl,_,_,rfl,_,_,rfl,rfl,?_⟩;refine⟨_,rfl,_,rfl,M,_,rfl,.inl (aG.of eM),rfl,di _,_,rfl,?_⟩;refine cE (λc=>?_) (λc=>?_)
   .refine⟨_,rfl,_,rfl,p,rfl,⟨_,B4.tup v2⟩,λD2 i5=>gB (xs:=ru.2.map V.str) (λk ys σ2 H6=>∃zs:List Str,ys=zs.map V.str/\zs.length<=k/\(∃y0,σ2=[y0,aM D,aM M])/\aB H5 H6/\H6 D2=some (.lst ys)/\∀z∈zs,z∈ru.2)
     ⟨[],rfl,aD _,⟨none,rfl⟩,af i5 _,ae,λ_ h=>(by cases h)⟩ (λk ys σ2 H6 _ h=>?_) (λk v ys σ2 H6 ex h=>?_) (λys σ2 H6 h=>?_)⟩
    .obtain⟨_,_,_,_,s6,_⟩:=h;exact s6.tup (B4.tup v2)
    .obtain⟨zs,rfl,lz,⟨y0,rfl⟩,s6,HZ,zm⟩:=h;have lk:=(bj.mp ex).1;rw [av] at lk;rw [bo] at ex;obtain⟨z,ez,rfl⟩:=cg.mp ex;refine goN ?_;refine⟨_,rfl,_,rfl,D,_,rfl,.inl (aG.of (s6 _ _ (s5 _ _ Ja))),rfl,di _,_,rfl,?_⟩;refine cE (λc1=>?_) (λc1=>?_)
     .refine⟨_,rfl,_,rfl,M,_,rfl,.inl (aG.of (s6 _ _ eM)),rfl,di _,_,rfl,?_⟩;refine cE (λc2=>?_) (λc2=>?_)
      .refine⟨_,rfl,HZ,bF (by rw [av];omega),zs++[z],by rw [bG];rfl,by rw [bp];simp;omega,⟨_,rfl⟩,λb o hb=>?_,ae,λy hy=>(cq.mp hy).elim (zm y) λq=>(bC.mp q) ▸ b8 ez⟩;rw [ai (λz=>by rw [z,i5] at hb;cases hb)];exact s6 b o hb
      exact⟨zs,rfl,∅,⟨_,rfl⟩,s6,HZ,zm⟩
     refine du ?_;exact⟨zs,rfl,∅,⟨_,rfl⟩,s6,HZ,zm⟩
    obtain⟨zs,rfl,lz,_,s6,HZ,zm⟩:=h;have cm:ru.1∈ms:=dA ((gk _ _).symm.trans c);rw [av] at lz;refine⟨M,D2,_,_,rfl,rfl,s6 _ _ eM,HZ,fits (by rw [av,av];omega),λM2 hM2=>?_⟩;rw [<-bG];refine⟨M2,ms++zs,_,_,rfl,(s5.trans s6).trans (af hM2 _),ae,by rw [bp];omega,mO.app (b8 e1) cm zm⟩
   exact⟨M,ms,_,_,rfl,s5,eM,∅,mO⟩
  rintro σ H5 ⟨M,ms,y1,y2,rfl,s5,eM,lM,mO⟩;rw [av,ll] at lM;exact⟨M,ms,_,_,_,rfl,s5,eM,∅,mO⟩
 rintro σ H4 ⟨M,ms,y1,y2,y6,rfl,s4,eM,lM,mO⟩;have x9:=s3.trans s4;refine⟨_,rfl,R,rs,aa,false,rfl,x9.seq hR,cT.same x9,DK,λEm H5 fEm s5 eEm lEm=>?_⟩;refine goN ?_
 ac_rfl
 refine⟨rM,λAl Xr=>?_⟩;have k6:=af Xr (.lst []);have s6:=(x9.trans s5).trans k6;have Uq:=k6 _ _ (s5 _ _ (s4 _ _ Ja));have eE6:=k6 _ _ (s5 _ _ (s4 _ _ XW));have eM6:=k6 _ _ (s5 _ _ eM);have Se:=k6 _ _ eEm;have eA6:upd H5 Al (.lst []) Al=some (.lst []):=ae;have nA:∀b o,H5 b=some o->b≠Al:=λb o h z=>by rw [z,Xr] at h;cases h
 have nAD:=nA _ _ (s5 _ _ (s4 _ _ Ja));have nAE:=nA _ _ (s5 _ _ (s4 _ _ XW));have nAM:=nA _ _ (s5 _ _ eM);have nAm:=nA _ _ eEm;have fAl:H Al=none:=(x9.trans s5).free Xr;generalize upd H5 Al (.lst [])=H6 at k6 s6 Uq eE6 eM6 Se eA6;refine goN ?_
 ac_rfl
 let Kp:Hp->Prop:=λH7=>aB H H7/\H7 D=some (.lst ((hm aa).map V.str))/\H7 En=some (.lst ((cH true aa).map V.str))/\H7 M=some (.lst (ms.map V.str))/\H7 Em=some (.lst ((cH false aa).map V.str))
 have i4:∀{H7 H8:Hp},Kp H7->aB H7 H8->Kp H8:=λh s=>⟨h.1.trans s,s _ _ h.2.1,s _ _ h.2.2.1,s _ _ h.2.2.2.1,s _ _ h.2.2.2.2⟩;have QT:∀{H7:Hp}{xs:List V},Kp H7->Kp (upd H7 Al (.lst xs)):=λh=>⟨λb o hb=>by rw [ai (λz=>by rw [z,fAl] at hb;cases hb)];exact h.1 b o hb,by rw [ai nAD];exact h.2.1,by rw [ai nAE];exact h.2.2.1,by rw [ai nAM];exact h.2.2.2.1,by rw [ai nAm];exact h.2.2.2.2⟩
 let Mc:Hp->List Addr->List (Str×Str)->Prop:=λH7 as gF=>Paired (λa (pr:Str×Str)=>aR K H7 a [.str pr.1,.str pr.2]) as gF
 let SE:pU:=λi σ H7=>∃(as:List Addr)(gF:List (Str×Str))(y1 y2 y6 y9 zq:Option V),σ=[aM R,y1,y2,aM D,aM En,aM M,y6,aM Em,aM Al,y9,zq,none,none,none]/\Kp H7/\H7 Al=some (.lst (as.map V.ref))/\Mc H7 as gF/\as.length<=4 * i/\YQ aa (aa.take i) gF
 refine⟨_,rfl,R,rfl,⟨_,s6.seq hR⟩,cR (xs:=rs.map V.ref) SE ⟨[],[],_,_,_,_,_,rfl,⟨s6,Uq,eE6,eM6,Se⟩,eA6,.nil,by simp,λru h=>(by simp at h)⟩ ?_ ?_ ?_⟩
 .rintro i σ H7 _ ⟨as,gF,y1,y2,y6,y9,zq,rfl,kp,_⟩;exact kp.1.seq hR
 .intro i x2 σ H7 pO lD
  ac_nf0
  obtain⟨as,gF,y1,y2,y6,y9,zq,rfl,kp,eA,pA,lA,aO⟩:=lD;have lj:=(bj.mp pO).1;rw [av] at lj;rw [bo] at pO;obtain⟨r,er,rfl⟩:=cg.mp pO;obtain⟨ru,e1,p,v1,v2⟩:=cT.get er;have iS:=DK.A4 ru (b8 e1);refine⟨r,_,rfl,kp.1.tup v1,rfl,_,_,rfl,_,_,rfl,rfl,?_⟩;refine⟨_,rfl,p,_,rfl,.inr (kp.1.tup v2),_,rfl,by rw [av];omega,by rw [av];omega,?_⟩;rw [av,gJ]
  let Iz4:pU:=λj σ H8=>∃(as:List Addr)(gF:List (Str×Str))(y9 zq:Option V),σ=[aM R,some (.str ru.1),aM p,aM D,aM En,aM M,y6,aM Em,aM Al,y9,zq,none,none,none]/\Kp H8/\H8 Al=some (.lst (as.map V.ref))/\Mc H8 as gF/\as.length<=4 * i+j/\YQ aa (aa.take i) gF/\∀(j2:Nat)(z2:Str),j2 < j->IC aa ru j2 z2->(ru.1,z2)∈gF
  refine g_ (n:=ru.2.length) Iz4 ⟨as,gF,_,_,rfl,kp,eA,pA,∅,aO,λj2 _ h=>by omega⟩ ?_ ?_
  .intro j σ H8 hj lD
   ac_nf0
   obtain⟨as,gF,y9,zq,rfl,kp,eA,pA,lA,aO,aJ⟩:=lD;obtain⟨z,ez⟩:∃z,ru.2[j]?=some z:=⟨ru.2[j]'∅,b_ ∅⟩;have atj:lS (ru.2.map V.str) (0+(j:Int))=some (.str z):=by
    rw [jZ];exact cf (by rw [bo,ez];rfl)
   have eq1:=u6 ru.2 j;have eq2:=Eu ru.2 j;have lq1:(ru.2.take j).length<=ru.2.length:=by rw [dD];omega
   have lq2:(ru.2.drop (j+1)).length<=ru.2.length:=by rw [mw];omega
   have M4:∀y,y∈ru.2.take j++ru.2.drop (j+1)->∃k,k≠j/\ru.2[k]?=some y:=λy hy=>by
    rcases cq.mp hy with h | h
    .obtain⟨k,lk,ek⟩:=qH h;exact⟨k,∅,ek⟩
    obtain⟨k,ek⟩:=ix h;rw [List.getElem?_drop] at ek;exact⟨j+1+k,∅,ek⟩
   generalize ru.2.take j=q1 at eq1 lq1 M4;generalize ru.2.drop (j+1)=q2 at eq2 lq2 M4;refine goN ?_
   ac_rfl
   refine⟨_,rfl,_,rfl,_,rfl,p,_,rfl,kp.1.tup v2,λt1 H9 s9 e9=>?_⟩;rw [eq1] at e9;refine⟨_,rfl,_,rfl,_,_,rfl,rfl,_,rfl,p,_,rfl,s9.tup (kp.1.tup v2),λt2 HA sA eA2=>?_⟩;rw [eq2] at eA2;refine⟨t1,t2,_,_,rfl,rfl,sA.tup e9,eA2,fits (by rw [av,av];omega),λt3 HB sB eB=>?_⟩;rw [<-bG] at eB;refine goN ?_
   ac_rfl
   have Vi:=s9.trans (sA.trans sB);have Hc:=i4 kp Vi;have X0:=Vi _ _ eA;have Zl:Mc HB as gF:=Paired.eJ pA λa pr z=>Vi.tup z;have yp:∀{HC:Hp},aB HB HC->¬IC aa ru j z->∃(as:List Addr)(gF:List (Str×Str))(y9' UQ:Option V),[aM R,some (.str ru.1),aM p,aM D,aM En,aM M,y6,aM Em,aM Al,some (.int (0+(j:Int))),aM t3,none,none,none]=[aM R,some (.str ru.1),aM p,aM D,aM En,aM M,y6,aM Em,aM Al,y9',UQ,none,none,none]/\Kp HC/\HC Al=some (.lst (as.map V.ref))/\Mc HC as gF/\as.length<=4 * i+(j+1)/\YQ aa (aa.take i) gF/\∀(j2:Nat)(z2:Str),j2 < j+1->IC aa ru j2 z2->(ru.1,z2)∈gF:=λ{HC} sC nl=>⟨as,gF,_,_,rfl,i4 Hc sC,sC _ _ X0,Paired.eJ Zl λa pr z=>sC.tup z,∅,aO,λj2 z2 h lo=>by
    by_cases c:j2 < j
    .exact aJ j2 z2 c lo
    have:j2=j:=by omega
    subst this;have e2:=lo.1;rw [ez] at e2;cases e2;exact absurd lo nl⟩
   refine⟨_,rfl,_,rfl,p,_,_,_,rfl,rfl,Hc.1.tup v2,atj,_,rfl,D,_,rfl,.inl (aG.of Hc.2.1),rfl,di _,_,rfl,?_⟩;refine cE (λc1=>?_) (λc1=>?_)
   .refine⟨_,rfl,t3,rfl,⟨_,eB⟩,λD2 i5=>lI (zs:=q1++q2) [aM Em] (λz=>decide (z∈cH false aa)) rfl eB (by rw [bp];omega) i5 (λz _ H5 Qy s5 hq=>?_) λHC sC eC=>?_⟩
    .refine⟨_,rfl,_,rfl,Em,_,rfl,.inl (aG.of (s5 _ _ Hc.2.2.2.2)),rfl,di _,?_⟩;rw [gk];exact hq
    refine⟨D2,_,rfl,aG.of eC,_,rfl,?_⟩;refine cE (λc2=>?_) (λc2=>?_)
    .have kpC:=i4 Hc sC;refine⟨_,rfl,.inl ⟨rfl,_,aG.of (sC _ _ X0)⟩,_,rfl,_,rfl,_,rfl,p,_,_,_,rfl,rfl,kpC.1.tup v2,atj,oK,λt ht=>?_⟩;have kD:=af ht (.tup [.str ru.1,.str z]);have sD:=sC.trans kD;have vD:aR K (upd HC t (.tup [.str ru.1,.str z])) t [.str ru.1,.str z]:=aR.of ae;generalize upd HC t (.tup [.str ru.1,.str z])=HD at kD sD vD;have XZ:=sD _ _ X0;refine⟨Al,_,_,rfl,rfl,XZ,bF (by rw [av];omega),?_⟩;exact⟨as++[t],gF++[(ru.1,z)],_,_,rfl,QT (i4 Hc sD),by rw [ae,bG];rfl,gX (Paired.eJ Zl λa pr z=>aW XZ (sD.tup z)) (aW XZ vD),by rw [bp];simp;omega,λr Lv j2 z2 lo=>iH _ (aO r Lv j2 z2 lo),λj2 z2 h lo=>by
      by_cases c:j2 < j
      .exact iH _ (aJ j2 z2 c lo)
      have:j2=j:=by omega
      subst this;have e2:=lo.1;rw [ez] at e2;cases e2;exact fU _ cJ⟩
    refine yp sC λlo=>c2 ?_;rw [all_map];refine gr.mpr λy hy=>bN ?_;obtain⟨k,nk,ek⟩:=M4 y hy;exact lo.2.2 k y nk ek
   refine du ?_;exact yp (λ_ _ h=>h) λlo=>c1 ((gk _ _).trans (bN lo.2.1))
  rintro σ H8 ⟨as,gF,y9,zq,rfl,kp,eA,pA,lA,aO,aJ⟩;refine⟨as,gF,_,_,_,_,_,rfl,kp,eA,pA,∅,λr Lv j2 z2 lo=>?_⟩;rw [cQ,e1] at Lv;rcases cq.mp Lv with h | h
  .exact aO r h j2 z2 lo
  have:r=ru:=bC.mp h;subst this;exact aJ j2 z2 (bj.mp lo.1).1 lo
 rintro σ H7 ⟨as,gF,y1,y2,y6,y9,zq,rfl,kp,eA,pA,lA,aO⟩;rw [av,ll] at lA aO;rw [cP] at aO;refine⟨rM,λCm Xq=>?_⟩;have k8:=af Xq (.lst []);have Wb:=i4 kp k8;have eA8:=k8 _ _ eA;have Zn:Mc (upd H7 Cm (.lst [])) as gF:=Paired.eJ pA λa pr z=>k8.tup z;have eC8:upd H7 Cm (.lst []) Cm=some (.lst []):=ae;have nC:∀b o,H7 b=some o->b≠Cm:=λb o h z=>by rw [z,Xq] at h;cases h
 have nCA:=nC _ _ eA;have nCD:=nC _ _ kp.2.1;have nCE:=nC _ _ kp.2.2.1;have nCM:=nC _ _ kp.2.2.2.1;have nCm:=nC _ _ kp.2.2.2.2;have fCm:H Cm=none:=kp.1.free Xq;have QS:∀{H7:Hp}{xs:List V},Kp H7->Kp (upd H7 Cm (.lst xs)):=λh=>⟨λb o hb=>by rw [ai (λz=>by rw [z,fCm] at hb;cases hb)];exact h.1 b o hb,by rw [ai nCD];exact h.2.1,by rw [ai nCE];exact h.2.2.1,by rw [ai nCM];exact h.2.2.2.1,by rw [ai nCm];exact h.2.2.2.2⟩;generalize upd H7 Cm (.lst [])=H8 at k8 Wb eA8 Zn eC8;refine goN ?_
 ac_rfl
 have lap:=a_ pA
 let Iz5:pU:=λi σ H9=>∃(cs:List Str)(y1 y2 y6 y9 zq Jk Jj:Option V),σ=[aM R,y1,y2,aM D,aM En,aM M,y6,aM Em,aM Al,y9,zq,aM Cm,Jk,Jj]/\Kp H9/\H9 Al=some (.lst (as.map V.ref))/\Mc H9 as gF/\H9 Cm=some (.lst (cs.map V.str))/\cs.length<=8 * i/\Pu aa gF cs
 refine⟨_,rfl,R,rfl,⟨_,Wb.1.seq hR⟩,cR (xs:=rs.map V.ref) Iz5 ⟨[],_,_,_,_,_,_,_,rfl,Wb,eA8,Zn,eC8,by simp,⟨by simp,λ_ h=>(by cases h),λi h e=>(by cases e)⟩⟩ ?_ ?_ ?_⟩
 .rintro i σ H9 _ ⟨cs,y1,y2,y6,y9,zq,Jk,Jj,rfl,IP,_⟩;exact IP.1.seq hR
 .intro i x σ H9 ex lD
  ac_nf0
  obtain⟨cs,y1,y2,y6,y9,zq,Jk,Jj,rfl,IP,eA9,Zm,LM,lC9,Sm⟩:=lD;have li:=(bj.mp ex).1;rw [av] at li;refine goN ?_
  ac_nf
  let Iz6:pU:=λj σ HA=>∃(cs:List Str)(Jk Jj:Option V),σ=[aM R,y1,y2,aM D,aM En,aM M,some x,aM Em,aM Al,y9,zq,aM Cm,Jk,Jj]/\Kp HA/\HA Al=some (.lst (as.map V.ref))/\Mc HA as gF/\HA Cm=some (.lst (cs.map V.str))/\cs.length<=8 * i+j/\Pu aa gF cs
  refine⟨_,rfl,D,rfl,⟨_,aG.of IP.2.1⟩,cR (xs:=(hm aa).map V.str) Iz6 ⟨cs,_,_,rfl,IP,eA9,Zm,LM,∅,Sm⟩ ?_ ?_ ?_⟩
  .rintro j σ HA _ ⟨cs,Jk,Jj,rfl,QU,_⟩;exact aG.of QU.2.1
  .intro j x2 σ HA pO lD
   ac_nf0
   obtain⟨cs,Jk,Jj,rfl,QU,Pc,Qm,Pb,ZJ,Uv⟩:=lD;have lj:=(bj.mp pO).1;rw [av] at lj;rw [bo] at pO;obtain⟨nm,enm,rfl⟩:=cg.mp pO;refine goN ?_
   ac_rfl
   refine⟨_,rfl,Al,rfl,⟨_,aG.of Pc⟩,λD2 i5=>cI (xs:=as.map V.ref) (λk ys σ2 HB=>∃zs:List Str,ys=zs.map V.str/\zs.length<=k/\(∃y0,σ2=[y0,some (.str nm)])/\aB HA HB/\HB D2=some (.lst ys)/\∀pr∈gF.take k,pr.1=nm->pr.2∈zs)
    ⟨[],rfl,aD _,⟨none,rfl⟩,af i5 _,ae,λ_ h=>(by simp at h)⟩ (λk ys σ2 HB _ h=>?_) (λk v ys σ2 HB ex h=>?_) (λys σ2 HB h=>?_)⟩
   .obtain⟨_,_,_,_,sB,_⟩:=h;exact aG.of (sB _ _ Pc)
   .obtain⟨zs,rfl,lz,⟨u0,rfl⟩,sB,eB,zA⟩:=h;have lk:=(bj.mp ex).1;rw [av] at lk;rw [bo] at ex;obtain⟨a,ea,rfl⟩:=cg.mp ex;obtain⟨pr,epr⟩:∃pr,gF[k]?=some pr:=⟨gF[k]'∅,b_ ∅⟩;obtain⟨a',Sb,va⟩:=Paired.at_ Qm k pr epr;rw [ea] at Sb;cases Sb;refine goN ?_;have tk:gF.take (k+1)=gF.take k++[pr]:=by rw [cQ,epr];rfl
    refine⟨_,rfl,a,_,_,_,rfl,rfl,sB.tup va,rfl,_,rfl,rfl,_,rfl,?_⟩;refine cE (λc1=>?_) (λc1=>?_)
    .refine⟨_,rfl,a,_,_,_,rfl,rfl,sB.tup va,rfl,eB,bF (by rw [av];omega),zs++[pr.2],by rw [bG];rfl,by rw [bp];simp;omega,⟨_,rfl⟩,λb o hb=>?_,ae,λp2 oM e2=>?_⟩
     .rw [ai (λz=>by rw [z,i5] at hb;cases hb)];exact sB b o hb
     rw [tk] at oM;rcases cq.mp oM with h | h
     .exact iH _ (zA p2 h e2)
     rw [bC.mp h];exact fU _ cJ
    refine⟨zs,rfl,∅,⟨_,rfl⟩,sB,eB,λp2 oM e2=>?_⟩;rw [tk] at oM;rcases cq.mp oM with h | h
    .exact zA p2 h e2
    have:p2=pr:=bC.mp h;rw [this] at e2;exact absurd (bN (congrArg V.str e2)) c1
   obtain⟨zs,rfl,lz,_,sB,eB,zA⟩:=h;rw [av] at lz zA;rw [lap,cP] at zA;refine goN ?_
   ac_rfl
   have Hc:=i4 QU sB;have yp:∀{HC:Hp},aB HB HC->∃(cs:List Str)(UP UO:Option V),[aM R,y1,y2,aM D,aM En,aM M,some x,aM Em,aM Al,y9,zq,aM Cm,some (.str nm),aM D2]=[aM R,y1,y2,aM D,aM En,aM M,some x,aM Em,aM Al,y9,zq,aM Cm,UP,UO]/\Kp HC/\HC Al=some (.lst (as.map V.ref))/\Mc HC as gF/\HC Cm=some (.lst (cs.map V.str))/\cs.length<=8 * i+(j+1)/\Pu aa gF cs:=λ{HC} sC=>⟨cs,_,_,rfl,i4 Hc sC,sC _ _ (sB _ _ Pc),Paired.eJ Qm λa pr z=>sC.tup (sB.tup z),sC _ _ (sB _ _ Pb),∅,Uv⟩;refine⟨_,rfl,D2,rfl,⟨_,aG.of eB⟩,λD3 yC=>qo (zs:=zs) [aM Cm] (λz=>decide (z∈cs)) rfl (aG.of eB) ∅ yC (λz _ H5 Qy s5 hq=>?_) λHC sC eC=>?_⟩
   .refine⟨_,rfl,_,rfl,Cm,_,rfl,.inl (aG.of (s5 _ _ (sB _ _ Pb))),rfl,di _,?_⟩;rw [gk];exact hq
   refine⟨D3,_,rfl,aG.of eC,_,rfl,?_⟩;refine cE (λc2=>?_) (λc2=>?_)
   .refine⟨_,rfl,_,rfl,Cm,_,rfl,.inl (aG.of (sC _ _ (sB _ _ Pb))),rfl,di _,_,rfl,?_⟩;refine cE (λc1=>?_) (λc1=>?_)
    .have XY:=sC _ _ (sB _ _ Pb);have nc:nm∉cs:=λh=>by
      have c1':(!Nv (V.str nm) (cs.map V.str))=true:=c1;rw [gk,bN h] at c1';cases c1'
     have ac:∀z∈zs,z∈cs:=λz hz=>by
      rw [all_map] at c2;exact dA (gr.mp c2 z hz)
     refine⟨_,rfl,.inl ⟨rfl,_,aG.of XY⟩,_,rfl,Cm,_,_,rfl,rfl,XY,bF (by rw [av];omega),?_⟩;exact⟨cs++[nm],_,_,rfl,QS (i4 Hc sC),by rw [ai nCA];exact sC _ _ (sB _ _ Pc),Paired.eJ Qm λa pr z=>aW XY (sC.tup (sB.tup z)),by rw [ae,bG];rfl,by rw [bp];simp;omega,Uv.add nc (b8 enm) λz hz=>ac z (zA (nm,z) hz rfl)⟩
    exact yp sC
   refine du ?_;exact yp sC
  rintro σ HA ⟨cs,Jk,Jj,rfl,QU,Pc,Qm,Pb,ZJ,Uv⟩;rw [av,Lw] at ZJ;exact⟨cs,_,_,_,_,_,_,_,rfl,QU,Pc,Qm,Pb,∅,Uv⟩
 rintro σ H9 ⟨cs,y1,y2,y6,y9,zq,Jk,Jj,rfl,IP,eA9,Zm,LM,lC9,Sm⟩;refine⟨_,rfl,D,rfl,⟨_,aG.of IP.2.1⟩,λD3 yC=>qo (zs:=hm aa) [aM En,aM M,aM Cm] (λz=>decide (z∈cH true aa) && (decide (z∈ms) && decide (z∈cs))) rfl (aG.of IP.2.1) ∅ yC (λz _ H5 Qy s5 hq=>?_) λHC sC eC=>?_⟩
 .refine⟨_,rfl,_,rfl,En,_,rfl,.inl (aG.of (s5 _ _ IP.2.2.1)),rfl,di _,_,rfl,?_⟩;rw [gk];show if decide (z∈cH true aa)=true then _ else _;refine cE (λc=>?_) (λc=>?_)
  .rw [c,j5] at hq;refine⟨_,rfl,_,rfl,M,_,rfl,.inl (aG.of (s5 _ _ IP.2.2.2.1)),rfl,di _,_,rfl,?_⟩;rw [gk];show if decide (z∈ms)=true then _ else _;refine cE (λc=>?_) (λc=>?_)
   .rw [c,j5] at hq;refine⟨_,rfl,_,rfl,Cm,_,rfl,.inl (aG.of (s5 _ _ LM)),rfl,di _,?_⟩;rw [gk];exact hq
   have c':decide (z∈ms)=false:=by simpa using c
   rw [c',q9] at hq;exact hq
  have c':decide (z∈cH true aa)=false:=by simpa using c
  rw [c',q9] at hq;exact hq
 refine⟨D3,_,rfl,aG.of eC,?_⟩;rw [all_map];refine q _ _ (IP.1.trans sC) λhb=>⟨ms,cs,?_⟩;have al:=λz hz=>fk.mp (gr.mp hb z hz);refine⟨λz hz=>dA (al z hz).1,mO,λz hz=>dA (fk.mp (al z hz).2).1,Sm.cn,Sm.ch,λi h e ru iS er j z lo=>?_,λz hz=>dA (fk.mp (al z hz).2).2⟩;exact Sm.co i h e z (er ▸ aO ru iS j z lo)
end
theorem cv {α β:Type}{F:α->β->Prop}:∀{xs:List α}{ys:List β}{Jl:List α}{YR:List β},Paired F xs ys->Paired F Jl YR->Paired F (xs++Jl) (ys++YR)
 | _,_,_,_,.nil,h=>h
 | _,_,_,_,.cons a b,h=>.cons a (cv b h)
def me {aa:List au}{x:Str}:x∈hm aa↔x∈hd aa:=by
 constructor
 .intro h;obtain⟨ru,a,b⟩:=cy.mp h;exact b ▸ sR a
 intro h;obtain⟨ru,a,b⟩:=Lx h;exact cy.mpr ⟨ru,a,b⟩
def CK.Qo {aa:List au}{eX ms cs:List Str}(g:CK aa ms cs)(n3:eX.length<=3)(xx:∀ru∈aa,ru.1∈eX)(p3:∀ru∈aa,ru.2.length<=3):zf aa eX (cH true aa) ms cs:=by
 have TC:∀x∈hm aa,x∈eX:=λx hx=>by
  obtain⟨ru,a,b⟩:=cy.mp hx;exact b ▸ xx ru a
 have eo:=HW true aa;refine⟨n3,xx,p3,eo.nd,λx hx=>TC x (eo.sub x hx),λi h e=>?_,λh hh=>g.en h (me.mpr hh),g.mo,λh hh=>g.ma h (me.mpr hh),g.cn,λx hx=>TC x (g.ch x hx),λi h e ru iS er j z ez hz OZ=>?_,λh hh=>g.ca h (me.mpr hh)⟩
 .obtain⟨bD,a,b⟩:=eo.ord i h e;exact⟨bD,a,λp hp=>(b p hp).imp id λq z=>q.2 (me.mpr z)⟩
 exact g.co i h e ru iS er j z ⟨ez,me.mpr hz,λk y nk ey=>HX (OZ k y nk ey)⟩
def CU {aa:List au}{eX ws:List Str}(nd:eX.Nodup)(n0:0 < eX.length)(n3:eX.length<=3)(dj:∀x∈eX,x∉ws)(hl:aa.length=eX.length)
  (hs:∀(j:Nat)(ru:au),aa[j]?=some ru->eX[j]?=some ru.1/\pT eX ws j ru.2):zf aa eX eX.reverse eX eX:=by
 have at_:∀(a:Nat)(h:Str),eX[a]?=some h->∃bD,aa[a]?=some (h,bD)/\pT eX ws a bD:=λa h e=>by
  have la:=(bj.mp e).1;have e2:aa[a]?=some (aa[a]'∅):=b_ ∅;obtain⟨x1,x2⟩:=hs a _ e2;rw [e] at x1;refine⟨(aa[a]'∅).2,?_,x2⟩;rw [e2]
  congr 1
  exact Prod.ext (iw x1).symm rfl
 have B9:∀ru∈aa,∃a:Nat,eX[a]?=some ru.1/\pT eX ws a ru.2:=λru h=>by
  obtain⟨a,e⟩:=ix h;exact⟨a,hs a ru e⟩
 have T5:∀x,x∈hd aa->x∈eX:=λx hx=>by
  obtain⟨ru,a,b⟩:=Lx hx;obtain⟨k,e,_⟩:=B9 ru a;exact b ▸ b8 e
 have wN:∀x∈ws,x∉hd aa:=λx hx h=>dj x (T5 x h) hx;refine⟨n3,λru h=>?_,λru h=>?_,List.pairwise_reverse.mpr (nd.imp λh=>h.symm),λx hx=>List.mem_reverse.mp hx,λi h e=>?_,λh hh=>List.mem_reverse.mpr (T5 h hh),λi h e=>?_,λh hh=>T5 h hh,nd,λ_ h=>h,λi h e ru iS er j z ez hz OZ=>?_,λh hh=>T5 h hh⟩
 .obtain⟨a,e,_⟩:=B9 ru h;exact b8 e
 .obtain⟨a,e,sk⟩:=B9 ru h;rcases sk with ⟨n',wx,_,_,_,l2,h | h⟩ | ⟨_,_,l2⟩
  .rw [h,bp];simp;omega
  .rw [h,dS];omega
  omega
 .have li:=(bj.mp e).1;rw [qS] at li;rw [vL li] at e;obtain⟨bD,e2,sk⟩:=at_ _ h e;refine⟨bD,b8 e2,λp hp=>?_⟩;rcases sk with ⟨n',wx,e3,_,hw,_,qA⟩ | ⟨_,hw,_⟩
  .have cs:p=n'\/p∈wx:=by
    rcases qA with h | h
    .rw [h] at hp;rcases cq.mp hp with q | q
     .exact .inr q
     exact .inl (bC.mp q)
    rw [h] at hp;rcases bY.mp hp with q | q
    .exact .inl q
    exact .inr q
   rcases cs with rfl | q
   .left;have l3:=(bj.mp e3).1;have e4:eX.reverse[i - 1]?=some p:=by
     rw [vL ∅,<-e3]
     congr 1
     omega
    refine b8 (i:=i - 1) ?_;rw [rL ∅];exact e4
   exact .inr (wN p (hw p q))
  exact .inr (wN p (hw p hp))
 .match i,e with
  | 0,e =>
   obtain⟨bD,e2,_⟩:=at_ 0 h e;exact .inl ⟨_,e2,rfl⟩
  | i+1,e =>
   have li:=(bj.mp e).1;have e5:eX[i]?=some (eX[i]'∅):=b_ ∅;obtain⟨bD,e2,sk⟩:=at_ i _ e5;refine .inr ⟨_,b8 e2,?_,?_⟩
   .refine b8 (i:=i) ?_;rw [rL ∅];exact e5
   rcases sk with ⟨n',wx,e3,_,hw,_,qA⟩ | ⟨l,_,_⟩
   .rw [e] at e3;cases e3;show h∈bD;rcases qA with q | q
    .rw [q];exact fU _ cJ
    rw [q];exact cJ
   omega
 exfalso;obtain⟨a,_,sk⟩:=B9 ru iS;rcases sk with ⟨n',wx,_,SO,hw,_,qA⟩ | ⟨_,hw,_⟩
 .obtain⟨y,hy⟩:=List.exists_mem_of_ne_nil wx SO;have hy2:y∈ru.2:=by
   rcases qA with q | q
   .rw [q];exact iH _ hy
   rw [q];exact cW _ hy
  obtain⟨k,ek⟩:=ix hy2;by_cases c:k=j
  .subst c;rw [ez] at ek;cases ek;exact wN _ (hw _ hy) hz
  exact wN y (hw y hy) (LI (OZ k y c ek))
 exact wN z (hw z (b8 ez)) hz
def zf.en {aa:List au}{eX E M Pl:List Str}(O:zf aa eX E M Pl):∀z∈hm aa,z∈cH true aa:=λz hz=>by
 have all:∀(n i:Nat)(h:Str),i < n->E[i]?=some h->h∈cH true aa:=by
  intro n
  induction n with
  | zero=>intro i h l;omega
  | succ n ih =>
   intro i h l e;obtain⟨bD,a,b⟩:=O.eO i h e;refine oC a λp hp=>?_;rcases b p hp with q | q
   .obtain⟨j,lj,ej⟩:=qH q;exact .inl (ih j p ∅ ej)
   exact .inr ⟨rfl,λw=>q (me.mp w)⟩
 obtain⟨i,e⟩:=ix (O.eA z (me.mp hz));exact all (i+1) i z ∅ e
def Mb (aa:List au)(rk:Str->Nat):Prop:=(∀x,rk x<=3)/\∀ru∈aa,∀(j:Nat)(z:Str),ru.2[j]?=some z->z∈hd aa->(∀(k:Nat)(y:Str),k≠j->ru.2[k]?=some y->Em aa y)->rk z < rk ru.1
theorem Hh:∀(l:List Str)(x:Str),EU l x<=l.length
 | [],x=>aD _
 | a::r,x=>by
  unfold EU;by_cases c:a=x
  .rw [ax c];exact fj _
  rw [aw c];exact Nat.succ_le_succ (Hh r x)
def zf.rank {aa:List au}{ns E M Pl:List Str}(o:zf aa ns E M Pl):Mb aa (EU Pl):=by
 refine⟨λx=>?_,λru iS j z ez hz h=>?_⟩
 .have h1:=Hh Pl x;have h2:=iP _ _ o.lN o.ZI;have h3:=o.n3;omega
 exact og _ _ _ (o.lO _ _ (sO Pl ru.1 (o.lA _ (sR iS))) ru iS rfl j z ez hz h)
structure SH (c:Int)(aa:List au):Prop where
 one:1<=aa.length
 six:aa.length<=6
 ins:∀ru∈aa,ru.1∈dq c/\ru.2.length<=3/\∀x∈ru.2,x∈dq c++iR c
 en:∀z∈hm aa,z∈cH true aa
 rank:∃rk,Mb aa rk
 good:∃rk b,Good aa rk b
section
def Fs (K:a8):Sp:=λvs H Q _=>∃(S:Addr)(ns:List Int) (at_:Nat),vs=[.ref S,.int (at_:Int)]/\aG K H S (ns.map V.int)/\ns.length<=1000 /\
 ∀(c:Int)(R:Addr)(rs:List Addr)(aa:List au)(H':Hp),c=cellAt ns at_->H R=none->aB H H'->H' R=some (.lst (rs.map V.ref))->bJ K H' rs aa->SH c aa->Q (.ref R) H'
def mI:aI ["_law_script","_law_at","_law_cell","_law_names_here","_law_words_here","_law_rules","_law_more_here","_law_free"] ["_law_script","_law_at"] (ay FJ):=iT rfl rfl rfl rfl nofun
def JR (F:iz K "_law_grammar" "_law_grammar" FJ f fd)(T:Txt mg)(GC:aE P w K mg base 2 "_law_cell_at" ["_law_script","_law_k"] (v3 K))(GN:aE P w K mg base 2 "_law_names" ["_law_cell"] BP)(GW:aE P w K mg base 2 "_law_words" ["_law_cell"] xP)
  (GS:aE P w K mg base 2 "_law_skeleton" ["_law_script","_law_at","_law_names_here","_law_words_here"] (Fn K))(GM:aE P w K mg base 2 "_law_more" ["_law_script","_law_at","_law_names_here","_law_many","_law_words_here"] (Fp K))(GG:aE P w K mg base 2 "_law_good" ["_law_rules"] (Ft K)) :
  bR P w K mg base fY 3 f fd ["_law_script","_law_at"] (Fs K):=by
 refine F.ok mI (λvs H Q E h=>?_) (λeK A outer s H vs Q E hr h=>?_)
 .obtain⟨S,ns,at_,rfl,_⟩:=h;rfl
 obtain⟨S,ns,at_,rfl,hS,hn,q⟩:=h;refine⟨_,aj (aC (i:=2) mI.nd rfl (bB rfl) (bc GC hr rfl (ab (pv 0) (ab (pv 1) ah))))
  (aj (aC (i:=3) mI.nd rfl (bB rfl) (bc GN hr rfl (ab (pv 2) ah)))
  (aj (aC (i:=4) mI.nd rfl (bB rfl) (bc GW hr rfl (ab (pv 2) ah)))
  (aj (aC (i:=5) mI.nd rfl (bB rfl) (bc GS hr rfl (ab (pv 0) (ab (aZ fZ (pv 1) ar) (ab (pv 3) (ab (pv 4) ah))))))
  (aj (aC (i:=6) mI.nd rfl (bB rfl) (bc GM hr rfl (ab (pv 0) (ab (aZ fZ (pv 1) ar) (ab (pv 3) (ab (aZ fK (aZ fR (pv 2) ar) ar) (ab (pv 4) ah)))))))
  (aj (qL (bU (bw iO (aZ fK (aZ fR (pv 2) ar) ar) ar (bW _))
   (aj (aC (i:=7) mI.nd rfl (bB rfl) (bc GM hr rfl (ab (pv 0) (ab (aZ fZ (pv 1) ar) (ab (pv 3) (ab (aZ fZ ar (aZ fK (aZ fR (pv 2) ar) ar)) (ab (pv 4) ah)))))))
   (ak (bU (dG (bc GG hr rfl (ab (pv 7) ah))) (ak (aQ (pv 7))) aS))) aS))
  (aj (bU (dG (bc GG hr rfl (ab (aZ jP (pv 5) (pv 6)) ah))) (ak (aQ (aZ jP (pv 5) (pv 6)))) aS)
  (ak (aQ (pv 5))))))))),?_⟩
 refine⟨_,rfl,_,rfl,S,ns,at_,rfl,hS,hn,λc hc=>?_⟩;have gl:=sW c;have wl:=AY c;refine⟨_,rfl,c,rfl,λN H1 fN s1 eN=>?_⟩;refine⟨_,rfl,c,rfl,λW H2 fW s2 eW=>?_⟩;have FR:=s1.trans s2;have XT:=s2 _ _ eN;refine⟨_,rfl,_,rfl,_,_,rfl,rfl,_,rfl,_,rfl,S,N,W,ns,at_+1,dq c,iR c,(by show [V.ref S,V.int ((at_:Int)+1),V.ref N,V.ref W]=_;congr 3),FR.seq hS,hn,XT,eW,∅,∅,∅,∅,λR1 K8 kY H3 f3 s3 e3 Vq l3 Y5=>?_⟩;have CY:=FR.trans s3;obtain⟨m,WU⟩:∃m:Nat,c / 9 % 4=(m:Int):=⟨(c / 9 % 4).toNat,∅⟩;refine⟨_,rfl,_,rfl,_,_,rfl,rfl,_,rfl,_,rfl,_,_,rfl,rfl,⟨nofun,nofun⟩,_,_,rfl,rfl,(by show (0:Int) < 4;decide),_,rfl,S,N,W,ns,at_+4,m,dq c,iR c,(by show [V.ref S,V.int ((at_:Int)+4),V.ref N,V.int (c / 9 % 4),V.ref W]=_;rw [WU];congr 3),CY.seq hS,hn,s3 _ _ XT,s3 _ _ eW,∅,∅,∅,∅,λR2 MP pE H4 f4 s4 e4 EN l4 in4=>?_⟩;have x9:=CY.trans s4;have e34:=s4 _ _ e3;have MR:=Vq.same s4;have O1:=CU (DW c) gl.1 gl.2 (DX c) l3 Y5;have in1:∀ru∈kY,ru.1∈dq c/\ru.2.length<=3/\∀x∈ru.2,x∈dq c++iR c:=λru h=>by
  refine⟨O1.xx ru h,O1.p3 ru h,λx hx=>?_⟩;obtain⟨a,e⟩:=ix h;rcases (Y5 a ru e).2 with ⟨n',wx,en,_,hw,_,qA⟩ | ⟨_,hw,_⟩
  .have cs:x=n'\/x∈wx:=by
    rcases qA with h | h
    .rw [h] at hx;rcases cq.mp hx with q | q
     .exact .inr q
     exact .inl (bC.mp q)
    rw [h] at hx;rcases bY.mp hx with q | q
    .exact .inl q
    exact .inr q
   rcases cs with rfl | q
   .exact iH _ (b8 en)
   exact fU _ (hw x q)
  exact fU _ (hw x hx)
 have Qt:∀{aa:List au}{ms cs:List Str},CK aa ms cs->1<=aa.length->aa.length<=6->(∀ru∈aa,ru.1∈dq c/\ru.2.length<=3/\∀x∈ru.2,x∈dq c++iR c)->SH c aa:=λg a b i=>⟨a,b,i,g.en,⟨_,(g.Qo gl.2 (λru h=>(i ru h).1) λru h=>(i ru h).2.1).rank⟩,_,_,(g.Qo gl.2 (λru h=>(i ru h).1) λru h=>(i ru h).2.1).good⟩;have P9:∀{aa:List au},1<=aa.length->aa.length<=6->(∀ru∈aa,ru.1∈dq c/\ru.2.length<=3/\∀x∈ru.2,x∈dq c++iR c)->Small aa:=λa b i=>⟨a,∅,λru h=>by have:=(i ru h).2.1;omega⟩;refine⟨λσ H5=>∃y7,σ=[aM S,some (.int (at_:Int)),some (.int c),aM N,aM W,aM R1,aM R2,y7]/\aB H4 H5,?_,?_⟩
 .refine⟨_,rfl,_,_,rfl,rfl,⟨nofun,nofun⟩,_,_,rfl,rfl,(by show (0:Int) < 2;decide),rfl,_,rfl,?_⟩;refine cE (λcc=>?_) (λcc=>?_)
  .have Rm:1+c / 9 % 4=((m+1:Nat):Int):=by omega
   refine⟨_,rfl,_,rfl,_,_,rfl,rfl,_,rfl,_,rfl,_,_,rfl,rfl,⟨nofun,nofun⟩,_,_,rfl,rfl,(by show (0:Int) < 4;decide),_,_,rfl,rfl,_,rfl,S,N,W,ns,at_+4,m+1,dq c,iR c,(by show [V.ref S,V.int ((at_:Int)+4),V.ref N,V.int (1+c / 9 % 4),V.ref W]=_;rw [Rm];congr 3),x9.seq hS,hn,s4 _ _ (s3 _ _ XT),s4 _ _ (s3 _ _ eW),∅,∅,∅,∅,λR3 Zd FX H5 f5 s5 e5 Zf l5 ZT=>?_⟩;have B4:=x9.trans s5;refine⟨_,rfl,R3,Zd,FX,rfl,aG.of e5,Zf,P9 ∅ ∅ ZT,λb H6 s6 hb=>⟨b,rfl,?_⟩⟩;refine cE (λc2=>?_) (λc2=>?_)
   .obtain⟨ms,cs,g⟩:=hb c2;exact⟨_,rfl,q c R3 Zd FX H6 hc (x9.free f5) (B4.trans s6) (s6 _ _ e5) (Zf.same s6) (Qt g ∅ ∅ ZT)⟩
   exact⟨_,rfl,s5.trans s6⟩
  exact⟨_,rfl,aB.refl _⟩
 rintro σ H5 ⟨y7,rfl,s5⟩;have B4:=x9.trans s5;have eA:=s5 _ _ e34;have eB:=s5 _ _ e4;have aae:=a_ MR;have aad:=a_ EN;have ZS:∀ru∈kY++pE,ru.1∈dq c/\ru.2.length<=3/\∀x∈ru.2,x∈dq c++iR c:=λru h=>(cq.mp h).elim (in1 ru) (in4 ru);have ES:1<=(kY++pE).length/\(kY++pE).length<=6:=by rw [bp];omega
 have Ze:bJ K H5 (K8++MP) (kY++pE):=cv (MR.same s5) (EN.same s5);refine⟨_,rfl,_,rfl,R1,R2,_,_,rfl,rfl,eA,eB,fits (by rw [av,av];omega),λR4 hR4=>?_⟩;rw [<-bG];have k6:=af hR4 (.lst ((K8++MP).map V.ref));have e6:upd H5 R4 (.lst ((K8++MP).map V.ref)) R4=some (.lst ((K8++MP).map V.ref)):=ae;generalize upd H5 R4 (.lst ((K8++MP).map V.ref))=H6 at k6 e6;have FQ:=B4.trans k6;refine⟨R4,K8++MP,kY++pE,rfl,aG.of e6,Ze.same k6,P9 ES.1 ES.2 ZS,λb H7 s7 hb=>⟨b,rfl,?_⟩⟩;have uJ:=k6.trans s7;refine cE (λc2=>?_) (λc2=>?_)
 .obtain⟨ms,cs,g⟩:=hb c2;refine⟨_,rfl,_,rfl,R1,R2,_,_,rfl,rfl,uJ _ _ eA,uJ _ _ eB,fits (by rw [av,av];omega),λR5 Xh=>?_⟩;rw [<-bG];exact q c R5 (K8++MP) (kY++pE) _ hc ((FQ.trans s7).free Xh) ((FQ.trans s7).trans (af Xh _)) ae ((Ze.same uJ).same (af Xh _)) (Qt g ES.1 ES.2 ZS)
 exact⟨_,rfl,q c R1 K8 kY H7 hc (FR.free f3) (FQ.trans s7) (uJ _ _ eA) ((MR.same s5).same uJ) ⟨∅,∅,in1,O1.en,⟨_,O1.rank⟩,_,_,O1.good⟩⟩
end
end gT
namespace L2
open PySem PySem.Spec PyProof.Rows
def Ed:List V->List V->Bool
 | [],[]=>true
 | x::xs,y::ys=>u3 x y && Ed xs ys
 | _,_=>false
theorem u4:∀(xs ys:List V),((List.range (min xs.length ys.length)).all (λj=>u3 (xs.getD j .eV) (ys.getD j .eV)) && (xs.length == ys.length))=Ed xs ys
 | [],[]=>rfl
 | [],y::ys=>by simp [Ed]
 | x::xs,[]=>by simp [Ed]
 | x::xs,y::ys=>by
  have ih:=u4 xs ys;show _=(u3 x y && Ed xs ys);rw [<-ih,dS,dS,Nat.succ_min_succ,List.range_succ_eq_map,List.all_cons,List.all_map];simp only [Function.comp_def,List.getD_cons_zero,List.getD_cons_succ,Nat.succ_eq_add_one];rw [Bool.and_assoc]
  congr 2
  simp
def A3 {A:Around}{s:Shared}{xs ys:List V}{aN d7:List Value}(r:aY xs aN)(r2:aY ys d7)(fx:xs.all gZ=true)(fy:ys.all gZ=true) (j:Nat)(h1:j < aN.toArray.size)(h2:j < d7.toArray.size) :
  SeqAt.EqAt A s aN.toArray[j] d7.toArray[j] (u3 (xs.getD j .eV) (ys.getD j .eV)):=by
 have l1:=r.length;have l2:=r2.length;have k1:j < aN.length:=by simpa using h1
 have k2:j < d7.length:=by simpa using h2
 have g1:xs[j]?=some (xs[j]'∅):=b_ ∅;have g2:ys[j]?=some (ys[j]'∅):=b_ ∅;obtain⟨u1,e1,q1⟩:=r.get g1;obtain⟨u2,e2,q2⟩:=r2.get g2;have f1:aN.toArray[j]=u1:=by
  have:=(bj.mp e1).2;simpa using this
 have f2:d7.toArray[j]=u2:=by
  have:=(bj.mp e2).2;simpa using this
 rw [f1,f2];have d1:xs.getD j .eV=xs[j]'∅:=by rw [nu,g1];rfl
 have d2:ys.getD j .eV=ys[j]'∅:=by rw [nu,g2];rfl
 rw [d1,d2];exact A7 q1 q2 (gr.mp fx _ (pY _)) (gr.mp fy _ (pY _))
def HS {X:Cx}{ag:List (Addr×Obj)}{σ:St}{H:Hp}{s:Shared}(I:Inv X ag σ H s)(A:Around){a b:Addr}{xs ys:List V}(ha:aR X.K H a xs)(hb:aR X.K H b ys)(fx:xs.all gZ=true)(fy:ys.all gZ=true)(ne:a≠b)(hu:A.units < cLine):SeqAt.EqAt A s (.ref a) (.ref b) (Ed xs ys):=by
 refine .of_refs ne ?_;obtain⟨aN,r,pl,hz⟩:=I.tuple ha;obtain⟨d7,r2,zt,Wo⟩:=I.tuple hb;have l1:=r.length;have l2:=r2.length;have q:=SeqAt.RcAt.tuples (A:=A) (s:=s) (e:=λj=>u3 (xs.getD j .eV) (ys.getD j .eV)) pl zt hu (λj h1 h2=>A3 r r2 fx fy j h1 h2);have e:((List.range (min aN.toArray.size d7.toArray.size)).all (λj=>u3 (xs.getD j .eV) (ys.getD j .eV)) && aN.toArray.size == d7.toArray.size)=Ed xs ys:=by
  rw [<-u4];simp only [bO,<-l1,<-l2]
 rw [e] at q;exact q
def rL1 (K:a8):R2:=λx y H Q=>∃p q xs b ys,x=.ref p/\y=.ref q/\aG K H p xs/\aG K H q [.ref b]/\aR K H b ys/\ys.all gZ=true /\
 ((xs=[]/\Q (.bl true) H)\/∃a zs,xs=[.ref a]/\a≠b/\aR K H a zs/\zs.all gZ=true/\Q (.bl (!Ed zs ys)) H)
def Gm {X:Cx}(hu:X.A.units+1 < cLine):kJ X (compareOp .NotEq) (rL1 X.K):=by
 intro ag s σ H x y v u Q I rx ry h;obtain⟨p,q,xs,b,ys,rfl,rfl,hp,hq,hb,fy,h⟩:=h;cases rx;cases ry;obtain⟨aN,r,pl,hz⟩:=I.list hp;obtain⟨d7,r2,zt,Wo⟩:=I.list hq;have l1:=r.length;have l2:=r2.length;rcases h with ⟨rfl,q⟩ | ⟨a,zs,rfl,ne,ha,fz,q⟩
 .refine SeqAt.RcNeAt.lists_lengths pl.isList zt.isList ?_ ∅ X.prog X.w X.xe _ ⟨.bl true,H,I,rfl,q⟩;rw [bO,bO,<-l1,<-l2];rfl
 refine SeqAt.RcNeAt.lists (e:=λ_=>Ed zs ys) pl.isList zt.isList (by simp only [bO];rw [<-l1,<-l2];rfl) ∅ (λj h1 h2=>?_) X.prog X.w X.xe _ ?_
 .have j0:j=0:=by
   simp only [bO,<-l1,d_] at h1;omega
  subst j0;obtain⟨u1,e1,q1⟩:=r.get (show [V.ref a][0]?=some (.ref a) from rfl);obtain⟨u2,e2,q2⟩:=r2.get (show [V.ref b][0]?=some (.ref b) from rfl);have f1:aN.toArray[0]=u1:=by
   have:=(bj.mp e1).2;simpa using this
  have f2:d7.toArray[0]=u2:=by
   have:=(bj.mp e2).2;simpa using this
  rw [f1,f2];cases (show u1=Value.ref a from q1);cases (show u2=Value.ref b from q2);exact HS I X.A.in1 ha hb fz fy ne (by rw [rg];omega)
 have e:(!(List.range aN.toArray.size).all λ_=>Ed zs ys)=!Ed zs ys:=by
  rw [bO,<-l1];cases Ed zs ys <;> rfl
 rw [e];exact⟨.bl _,H,I,rfl,q⟩
open PySem
def Vv (K:a8):R2:=λx y H Q=>∃y',y=.str y'/\((∃z,x=.str z/\Q (.bl (decide (V.str z=V.str y'))) H)\/∃a xs,x=.ref a/\aR K H a xs/\Q (.bl false) H)
def Gn {X:Cx}(hu:X.A.units < cLine):kJ X (compareOp .Eq) (Vv X.K):=by
 intro ag s σ H x y v u Q I rx ry h;obtain⟨y',rfl,h⟩:=h;rcases h with ⟨z,rfl,q⟩ | ⟨a,xs,rfl,ha,q⟩
 .exact iO ag s σ H _ _ v u Q I rx ry ⟨rfl,q⟩
 cases rx;obtain⟨t,rfl⟩:=ry;obtain⟨aN,r,pl,hz⟩:=I.tuple ha;exact SeqAt.RcAt.tuple_str y' t pl hu X.prog X.w X.xe _ ⟨.bl false,H,I,rfl,q⟩
end L2
namespace gT
open PySem L2 M11
abbrev z_:Stmt:=top 6
section
def wW:PySem.W.kitOne K (.type "tuple") (.type "str")=some false:=by kernel_rfl
def Nm:PySem.W.kitOne K (.type "str") (.type "int")=some false:=by kernel_rfl
def kit_is:PySem.W.kitOne K (.type "int") (.type "str")=some false:=by kernel_rfl
def Nn:PySem.W.kitOne K (.type "bool") (.type "int")=some true:=by kernel_rfl
def Iy (m:Nat)(y:V):Prop:=(∃n:Int,y=.int n/\¬(0<=n/\n < (m:Int)))\/(∃t,y=.bl t)\/∃z,y=.str z
def BX:Sp:=λvs H Q _=>∃(y:V) (m:Nat),vs=[y,.int (m:Int)]/\((∃k:Nat,y=.int (k:Int)/\k < m/\Q (.bl true) H)\/(Iy m y/\Q (.bl false) H))
def Jz:aI ["number","many"] ["number","many"] (ay z_):=iT rfl rfl rfl rfl nofun
def GU (F:iz K "is_number_below" "is_number_below" z_ f fd)(T:Txt mg):bR P w K mg base fY 1 f fd ["number","many"] BX:=by
 refine F.ok Jz (λvs H Q E h=>?_) (λeK A outer s H vs Q E hr h=>?_)
 .obtain⟨y,m,rfl,_⟩:=h;rfl
 obtain⟨y,m,rfl,h⟩:=h;refine⟨_,ak (aQ (jN (aF cK rfl T.EV ka (ab (pv 0) (ab (gi (v:=.ty "int") rfl T.int PyProof.Rows.boot_int rfl) ah)))
  (jN (Ge (aF cK rfl T.EV ka (ab (pv 0) (ab (gi (v:=.ty "bool") rfl T.boo PyProof.Rows.boot_bool rfl) ah))))
  (jM (Gh Qq qi ar (pv 0) (pv 1)))))),?_⟩
 dsimp only [Bd];rcases h with ⟨k,rfl,hk,q⟩ | ⟨⟨n,rfl,hn⟩ | ⟨t,rfl⟩ | ⟨z,rfl⟩,q⟩
 .refine⟨_,rfl,.int k,"int","int",true,rfl,.int k,dY,true,rfl,?_⟩;refine g9 ?_;refine⟨_,rfl,.int k,"int","bool",false,rfl,.int k,AK,false,rfl,true,rfl,?_⟩;refine g9 ?_;refine⟨_,rfl,_,_,rfl,rfl,_,rfl,?_⟩;refine cE (λ_=>?_) (λc=>absurd (bN ∅) c);refine⟨_,rfl,_,_,rfl,rfl,?_⟩;show Q (.bl (decide ((k:Int) < (m:Int)))) H;rw [bN ∅];exact q
 .refine⟨_,rfl,.int n,"int","int",true,rfl,.int n,dY,true,rfl,?_⟩;refine g9 ?_;refine⟨_,rfl,.int n,"int","bool",false,rfl,.int n,AK,false,rfl,true,rfl,?_⟩;refine g9 ?_;refine⟨_,rfl,_,_,rfl,rfl,_,rfl,?_⟩;refine cE (λc=>?_) (λc=>?_)
  .refine⟨_,rfl,_,_,rfl,rfl,?_⟩;show Q (.bl (decide (n < (m:Int)))) H;have c':=dA c;rw [cV (λl=>hn ⟨c',l⟩)];exact q
  have e:V.bl (decide ((0:Int)<=n))=V.bl false:=by
   cases hh:decide ((0:Int)<=n) with
   | true=>exact absurd hh c
   | false=>rfl
  first
   | exact q
   | (rw [e];exact q)
 .refine⟨_,rfl,.bl t,"bool","int",true,rfl,.bl t,Nn,true,rfl,?_⟩;refine g9 ?_;refine⟨_,rfl,.bl t,"bool","bool",true,rfl,.bl t,dY,true,rfl,false,rfl,?_⟩;refine du ?_;exact q
 refine⟨_,rfl,.str z,"str","int",false,rfl,.str z,Nm,false,rfl,?_⟩;refine du ?_;exact q
end
mutual
inductive Tr
 | w (z:Str)
 | n (k:Nat)(cs:gW)
inductive gW
 | nil
 | cons (t:Tr)(r:gW)
end
def gW.kr:gW->List Tr
 | .nil=>[]
 | .cons t r=>t::r.kr
mutual
def gH (K:a8)(H:Hp):Tr->V->Prop
 | .w z,v=>v=.str z
 | .n k cs,v=>∃a p vs,v=.ref a/\aR K H a [.int (k:Int),.ref p]/\aR K H p vs/\iq K H cs vs
def iq (K:a8)(H:Hp):gW->List V->Prop
 | .nil,vs=>vs=[]
 | .cons t r,vs=>∃v Mh,vs=v::Mh/\gH K H t v/\iq K H r Mh
end
mutual
def row:Tr->List Str
 | .w z=>[z]
 | .n _ cs=>rows cs
def rows:gW->List Str
 | .nil=>[]
 | .cons t r=>row t++rows r
end
mutual
def sz:Tr->Nat
 | .w _=>1
 | .n _ cs=>1+zP cs
def zP:gW->Nat
 | .nil=>0
 | .cons t r=>sz t+zP r
end
mutual
def dp:Tr->Nat
 | .w _=>0
 | .n _ cs=>1+Kw cs
def Kw:gW->Nat
 | .nil=>0
 | .cons t r=>max (dp t) (Kw r)
end
mutual
def Is (aa:List au):Tr->Str->Prop
 | .w z,x=>x=z/\z∉hd aa
 | .n k cs,x=>∃bD,aa[k]?=some (x,bD)/\xB aa cs bD
def xB (aa:List au):gW->List Str->Prop
 | .nil,ps=>ps=[]
 | .cons t r,ps=>∃p ER,ps=p::ER/\Is aa t p/\xB aa r ER
end
section
variable {K:a8}
mutual
theorem gH.keep {H H':Hp}(k:∀a xs,aR K H a xs->aR K H' a xs):∀(t:Tr){v:V},gH K H t v->gH K H' t v
 | .w z,v,h=>by unfold gH at *;exact h
 | .n m cs,v,h=>by
  unfold gH at *;obtain⟨a,p,vs,e,h1,h2,h3⟩:=h;exact⟨a,p,vs,e,k _ _ h1,k _ _ h2,iq.keep k cs h3⟩
theorem iq.keep {H H':Hp}(k:∀a xs,aR K H a xs->aR K H' a xs):∀(ts:gW){vs:List V},iq K H ts vs->iq K H' ts vs
 | .nil,vs,h=>by unfold iq at *;exact h
 | .cons t r,vs,h=>by
  unfold iq at *;obtain⟨v,Mh,e,h1,h2⟩:=h;exact⟨v,Mh,e,gH.keep k t h1,iq.keep k r h2⟩
end
theorem iq.paired {H:Hp}:∀(ts:gW){vs:List V},iq K H ts vs->Paired (λv t=>gH K H t v) vs ts.kr
 | .nil,vs,h=>by unfold iq at h;subst h;exact .nil
 | .cons t r,vs,h=>by
  unfold iq at h;obtain⟨v,Mh,rfl,h1,h2⟩:=h;exact .cons h1 (iq.paired r h2)
theorem FY:∀ts:gW,rows ts=ts.kr.flatMap row
 | .nil=>by unfold rows;rfl
 | .cons t r=>by unfold rows;rw [FY r];rfl
theorem BA:∀ts:gW,zP ts=(ts.kr.map sz).sum
 | .nil=>by unfold zP;rfl
 | .cons t r=>by unfold zP;rw [BA r];rfl
def Mt:∀t:Tr,1<=sz t
 | .w _=>by unfold sz;exact aD _
 | .n _ cs=>by unfold sz;omega
theorem xB.paired {aa:List au}:∀(ts:gW){ps:List Str},xB aa ts ps->ts.kr.length=ps.length/\∀(j:Nat) t p,ts.kr[j]?=some t->ps[j]?=some p->Is aa t p
 | .nil,ps,h=>by
  unfold xB at h;subst h;exact⟨rfl,λj t p e=>by simp [gW.kr] at e⟩
 | .cons t r,ps,h=>by
  unfold xB at h;obtain⟨p,ER,rfl,h1,h2⟩:=h;obtain⟨a,b⟩:=xB.paired r h2;refine⟨by show r.kr.length+1=ER.length+1;omega,λj u q e1 e2=>?_⟩;cases j with
  | zero=>cases e1;cases e2;exact h1
  | succ j=>exact b j u q e1 e2
theorem A_:∀(ts:gW)(t:Tr),t∈ts.kr->dp t<=Kw ts
 | .nil,t,h=>by cases h
 | .cons u r,t,h=>by
  unfold Kw;rcases bY.mp h with e | e
  .rw [e];omega
  have:=A_ r t e;omega
end
section
def yf {α β:Type}{F:α->β->Prop}{us:List α}{ts:List β}(p:Paired F us ts)(h:us≠[]):∃EL u kc t,us=EL++[u]/\ts=kc++[t]/\Paired F EL kc/\F u t:=by
 have p2:=Paired.FZ p;have hr:us.reverse≠[]:=λz=>h (List.reverse_eq_nil_iff.mp z);generalize e1:us.reverse=CM at p2 hr;generalize e2:ts.reverse=xw at p2;cases p2 with
 | nil=>exact absurd rfl hr
 | @cons u t Jo SV a b =>
  refine⟨Jo.reverse,u,SV.reverse,t,?_,?_,Paired.FZ b,a⟩
  .rw [<-List.reverse_reverse us,e1,mC]
  rw [<-List.reverse_reverse ts,e2,mC]
def yc {us:List V}{u:V}:(us++[u])[(us++[u]).length - 1]?=some u:=by
 rw [bp];simp
end
inductive Dd
 | step (z:Str)
 | make (k:Nat)
def Ut:Dd->List V
 | .step z=>[.str "step",.str z]
 | .make k=>[.str "make",.int (k:Int)]
mutual
def iU:Tr->List Dd
 | .w z=>[.step z]
 | .n k cs=>jw cs++[.make k]
def jw:gW->List Dd
 | .nil=>[]
 | .cons t r=>iU t++jw r
end
def Cy (k:Nat)(cs:gW):iU (.n k cs)=jw cs++[.make k]:=by rw [iU]
theorem tJ:∀ts:gW,jw ts=ts.kr.flatMap iU
 | .nil=>by unfold jw;rfl
 | .cons t r=>by unfold jw;rw [tJ r];rfl
mutual
theorem oG:∀t:Tr,(iU t).length=sz t
 | .w z=>by unfold iU sz;rfl
 | .n k cs=>by
  unfold iU sz;rw [bp,oF cs,d_];omega
theorem oF:∀ts:gW,(jw ts).length=zP ts
 | .nil=>by unfold jw zP;rfl
 | .cons t r=>by unfold jw zP;rw [bp,oG t,oF r]
end
theorem V3:∀l:List Tr,l.length<=(l.map sz).sum
 | []=>aD _
 | x::r=>by
  have:=Mt x;have:=V3 r;rw [cO,kQ,dS];omega
def gW.n6:List Tr->gW
 | []=>.nil
 | t::r=>.cons t (gW.n6 r)
theorem iq.Tj {K:a8}{H:Hp}:∀{vs:List V}{ts:List Tr},Paired (λv t=>gH K H t v) vs ts->iq K H (gW.n6 ts) vs
 | _,_,.nil=>by unfold gW.n6 iq;rfl
 | _,_,.cons h p=>by unfold gW.n6 iq;exact⟨_,_,rfl,h,iq.Tj p⟩
def AV (aa:List au) (k:Nat):Option Str:=aa[k]?.map (·.1)
def ie (aa:List au)(t:Tr)(part:Str):Bool:=match t with
 | .w z=>!decide (part∈hd aa) && decide (z=part)
 | .n k _=>decide (part∈hd aa) && decide (AV aa k=some part)
def ku (aa:List au):List Tr->List Str->Bool
 | [],[]=>true
 | t::ts,p::ps=>ie aa t p && ku aa ts ps
 | _,_=>false
def ic (aa:List au) (k:Nat)(gb:List Tr):Option (List Tr):=match aa[k]? with
 | none=>none
 | some ru=>if (decide (ru.2.length<=gb.length) && ku aa (gb.drop (gb.length - ru.2.length)) ru.2)=true then some (gb.take (gb.length - ru.2.length)++[.n k (gW.n6 (gb.drop (gb.length - ru.2.length)))]) else none
structure UB (aa:List au)(ds:List Dd)(gb:List Tr):Prop where
 is:∀t∈gb,∃x,Is aa t x
 dd:gb.flatMap iU=ds
def N8 {aa:List au}{t:Tr}{x p:Str}(h:Is aa t x)(f:ie aa t p=true):Is aa t p:=by
 cases t with
 | w z =>
  unfold ie at f;have f2:=fk.mp f;unfold Is at h ⊢;have e:=dA f2.2;exact⟨e.symm,h.2⟩
 | n k cs =>
  unfold ie at f;have f2:=fk.mp f;unfold Is at h ⊢;obtain⟨bD,e1,e2⟩:=h;have e:=dA f2.2;unfold AV at e;rw [e1] at e;have e3:x=p:=by
   have:some x=some p:=e;injection this
  exact⟨bD,by rw [e1,e3],e2⟩
theorem yI {aa:List au}:∀(ts:List Tr) (ps:List Str),(∀t∈ts,∃x,Is aa t x)->ku aa ts ps=true->xB aa (gW.n6 ts) ps
 | [],[],_,_=>by unfold gW.n6 xB;rfl
 | [],_::_,_,f=>by cases f
 | _::_,[],_,f=>by cases f
 | t::ts,p::ps,h,f=>by
  have f2:=fk.mp (show (ie aa t p && ku aa ts ps)=true from f);obtain⟨x,hx⟩:=h t cJ;unfold gW.n6 xB;exact⟨p,ps,rfl,N8 hx f2.1,yI ts ps (λu hu=>h u (cW _ hu)) f2.2⟩
def jR {aa:List au}{k:Nat}{gb F_:List Tr}(e:ic aa k gb=some F_):∃ru,aa[k]?=some ru/\ru.2.length<=gb.length/\ku aa (gb.drop (gb.length - ru.2.length)) ru.2=true/\F_=gb.take (gb.length - ru.2.length)++[.n k (gW.n6 (gb.drop (gb.length - ru.2.length)))]:=by
 unfold ic at e;cases er:aa[k]? with
 | none=>rw [er] at e;cases e
 | some ru =>
  rw [er] at e;have e:(if (decide (ru.2.length<=gb.length) && ku aa (gb.drop (gb.length - ru.2.length)) ru.2)=true then some (gb.take (gb.length - ru.2.length)++[.n k (gW.n6 (gb.drop (gb.length - ru.2.length)))]) else none)=some F_:=e;by_cases c:(decide (ru.2.length<=gb.length) && ku aa (gb.drop (gb.length - ru.2.length)) ru.2)=true
  .rw [ax c] at e;obtain⟨c1,c2⟩:=fk.mp c;exact⟨ru,rfl,dA c1,c2,(iw e).symm⟩
  rw [aw c] at e;cases e
def UB.top {aa:List au}{ds:List Dd}{gb:List Tr}(h:UB aa ds gb){k:Nat}{cs:gW}(ht:Tr.n k cs∈gb):k < aa.length:=by
 obtain⟨x,hx⟩:=h.is _ ht;unfold Is at hx;obtain⟨bD,e,_⟩:=hx;exact(bj.mp e).1
def UB.nil {aa:List au}:UB aa [] []:=⟨λ_ h=>(by cases h),rfl⟩
def K0:Dd->List Str
 | .step z=>[z]
 | .make _=>[]
mutual
theorem vW:∀t:Tr,(iU t).flatMap K0=row t
 | .w z=>by unfold iU row;rfl
 | .n k cs=>by
  unfold iU row;rw [qa,xO cs];simp [K0]
theorem xO:∀ts:gW,(jw ts).flatMap K0=rows ts
 | .nil=>by unfold jw rows;rfl
 | .cons t r=>by unfold jw rows;rw [qa,vW t,xO r]
end
def Eg (o:Option (List Tr)):Option Tr:=match o with
 | some [.n k cs]=>some (.n k cs)
 | _=>none
inductive De
 | d (x:Dd)
 | si (n:Int)
 | no
 | dn
def YO (m:Nat)(xs:List V):Prop:=(∃z,xs=[.str z]/\z ≠ "done")\/(∃(z:Str) (y:Int),xs=[.str z,.int y]/\z ≠ "step" /\ z ≠ "make")\/∃y,xs=[.str "make",y]/\Iy m y
def E9 (m:Nat)(H:Hp)(a:Addr):De->Prop
 | .d x=>H a=some (.tup (Ut x))
 | .si n=>H a=some (.tup [.str "step",.int n])
 | .no=>∃xs,H a=some (.tup xs)/\YO m xs
 | .dn=>H a=some (.tup [.str "done"])
def E9.keep {m:Nat}{H H':Hp}{a:Addr}(k:∀xs,H a=some (.tup xs)->H' a=some (.tup xs)):∀{d:De},E9 m H a d->E9 m H' a d
 | .d x,h=>k _ h
 | .si n,h=>k _ h
 | .no,⟨xs,h,b⟩=>⟨xs,k _ h,b⟩
 | .dn,h=>k _ h
def E9.same {m:Nat}{H H':Hp}{a:Addr}(s:aB H H'){d:De}(h:E9 m H a d):E9 m H' a d:=h.keep λ_ z=>s _ _ z
abbrev Bs (m:Nat)(H:Hp)(as:List Addr)(es:List De):Prop:=Paired (λa d=>E9 m H a d) as es
theorem Bs.same {m:Nat}{H H':Hp}{as:List Addr}{es:List De}(h:Bs m H as es)(s:aB H H'):Bs m H' as es:=Paired.eJ h λ_ _ z=>z.same s
def IG (aa:List au):De->Prop
 | .d (.make k)=>k < aa.length
 | _=>True
def hz (aa:List au):Str:=(hd aa).headD ""
def mV (aa:List au)(ts:List Tr):De->Option (List Tr)
 | .d (.step z)=>if z∈hd aa then none else some (ts++[.w z])
 | .d (.make k)=>ic aa k ts
 | _=>none
def fP (f:List Tr->De->Option (List Tr)):List De->List Tr->Option (List Tr)
 | [],p=>some p
 | d::r,p=>(f p d).bind (fP f r)
theorem jm (f:List Tr->De->Option (List Tr)):∀(ds es:List De)(p:List Tr),fP f (ds++es) p=(fP f ds p).bind (fP f es)
 | [],es,p=>rfl
 | d::r,es,p=>by
  show (f p d).bind (fP f (r++es))=((f p d).bind (fP f r)).bind (fP f es);cases f p d with
  | none=>rfl
  | some q=>exact jm f r es q
def CZ {f:List Tr->De->Option (List Tr)}{ds:List De}{i:Nat}{d:De}{p ts:List Tr}(e:ds[i]?=some d)(h:fP f (ds.take i) p=some ts):fP f (ds.take (i+1)) p=f ts d:=by
 rw [cQ,e];show fP f (ds.take i++[d]) p=_;rw [jm,h];show (f ts d).bind (fP f [])=_;cases f ts d with
 | none=>rfl
 | some q=>rfl
def C0 {f:List Tr->De->Option (List Tr)}{ds:List De}{i:Nat}{d:De}{p ts:List Tr}(e:ds[i]?=some d)(h:fP f (ds.take i) p=some ts)(n:f ts d=none):fP f ds p=none:=by
 have e1:ds=ds.take i++(d::ds.drop (i+1)):=by
  have li:=(bj.mp e).1;have e2:ds.drop i=d::ds.drop (i+1):=by
   rw [List.drop_eq_getElem_cons li]
   congr 1
   exact(bj.mp e).2
  rw [<-e2,vM]
 rw [e1,jm,h];show (f ts d).bind _=none;rw [n];rfl
def Eb {aa:List au}{h p:Str}(hh:h∈hd aa):ie aa (.w h) p=false:=by
 show (!decide (p∈hd aa) && decide (h=p))=false;by_cases c:p∈hd aa
 .rw [bN c];rfl
 rw [cV c,cV (λ(e:h=p)=>c (e ▸ hh))];rfl
theorem yH {aa:List au}:∀{ts:List Tr}{ps:List Str}{t:Tr},ku aa ts ps=true->t∈ts->∃p∈ps,ie aa t p=true
 | [],_,_,_,h=>by cases h
 | _::_,[],_,f,_=>by cases f
 | a::ts,b::ps,t,f,h=>by
  have f2:=fk.mp (show (ie aa a b && ku aa ts ps)=true from f);rcases bY.mp h with e | e
  .exact⟨b,cJ,e ▸ f2.1⟩
  obtain⟨p,hp,q⟩:=yH f2.2 e;exact⟨p,cW _ hp,q⟩
def xr (aa:List au)(ts:List Tr):Prop:=∀t∈ts,(∃x,Is aa t x)\/∃h∈hd aa,t=.w h
def xr.nil {aa:List au}:xr aa []:=λ_ h=>by cases h
def xr.make {aa:List au}{ts kc:List Tr}{k:Nat}(h:xr aa ts)(e:ic aa k ts=some kc):xr aa kc:=by
 obtain⟨ru,er,le,fl,rfl⟩:=jR e;intro t ht;rcases cq.mp ht with q | q
 .exact h t (qV q)
 rw [bC.mp q];refine .inl ⟨ru.1,?_⟩;unfold Is;refine⟨ru.2,er,yI _ _ (λt ht=>?_) fl⟩;rcases h t (List.mem_of_mem_drop ht) with w | ⟨x,hx,rfl⟩
 .exact w
 obtain⟨p,_,fp⟩:=yH fl ht;rw [Eb hx] at fp;cases fp
def xr.push {aa:List au}{ts:List Tr}(h:xr aa ts)(z:Str):xr aa (ts++[.w z]):=λt ht=>by
 rcases cq.mp ht with q | q
 .exact h t q
 rw [bC.mp q];by_cases c:z∈hd aa
 .exact .inr ⟨z,c,rfl⟩
 exact .inl ⟨z,by unfold Is;exact⟨rfl,c⟩⟩
theorem xr.mV {aa:List au}{ts kc:List Tr}{de:De}(h:xr aa ts)(e:gT.mV aa ts de=some kc):xr aa kc:=by
 cases de with
 | d y =>
  cases y with
  | step z =>
   have e:(if z∈hd aa then none else some (ts++[Tr.w z]))=some kc:=e;by_cases c:z∈hd aa
   .rw [ax c] at e;cases e
   rw [aw c] at e;cases e;exact h.push z
  | make k=>exact h.make e
 | si n=>cases e
 | no=>cases e
 | dn=>cases e
def xr.top {aa:List au}{ts:List Tr}(h:xr aa ts){k:Nat}{cs:gW}(ht:Tr.n k cs∈ts):k < aa.length:=by
 rcases h _ ht with ⟨x,hx⟩ | ⟨x,_,e⟩
 .unfold Is at hx;obtain⟨bD,e,_⟩:=hx;exact(bj.mp e).1
 cases e
theorem B6 {aa:List au}{f:List Tr->De->Option (List Tr)}(hf:∀{ts kc:List Tr}{de:De},xr aa ts->f ts de=some kc->xr aa kc):∀(ds:List De){ts kc:List Tr},xr aa ts->fP f ds ts=some kc->xr aa kc
 | [],ts,kc,h,e=>by cases e;exact h
 | d::r,ts,kc,h,e=>by
  have e:(f ts d).bind (fP f r)=some kc:=e;cases e1:f ts d with
  | none=>rw [e1] at e;cases e
  | some q=>rw [e1] at e;exact B6 hf r (hf h e1) e
def resT (aa:List au)(es:List De):Option Tr:=match es.getLast? with
 | some .dn=>Eg (fP (mV aa) es.dropLast [])
 | _=>none
abbrev wg:Stmt:=top 8
abbrev wz:Stmt:=top 9
abbrev wu:Stmt:=top 10
abbrev wy:Stmt:=top 11
abbrev so:Stmt:=top 12
abbrev xq (K:a8)(H:Hp)(us:List V)(ts:List Tr):Prop:=Paired (λv t=>gH K H t v) us ts
theorem xq.keep {K:a8}{H H':Hp}{us:List V}{ts:List Tr}(k:∀a xs,aR K H a xs->aR K H' a xs)(h:xq K H us ts):xq K H' us ts:=Paired.eJ h λ_ t z=>gH.keep k t z
def jX (H:Hp)(d:Addr)(aa:List au):Prop:=∃kE,H d=some (.dK kE)/\∀z,(bf kE (Sum.inr z)).isSome=decide (z∈hd aa)
def jX.same {H H':Hp}{d:Addr}{aa:List au}(h:jX H d aa)(s:aB H H'):jX H' d aa:=let ⟨kE,a,b⟩:=h;⟨kE,s _ _ a,b⟩
theorem jX.upd {H:Hp}{d P:Addr}{aa:List au}{xs:List V}{o:HO}(h:jX H d aa)(e:H P=some (.lst xs)):jX (upd H P o) d aa:=let ⟨kE,a,b⟩:=h;⟨kE,by rw [ai (λz=>by rw [z,e] at a;cases a)];exact a,b⟩
section
def BV (K:a8):Sp:=λvs H Q _=>∃(R d:Addr)(rs:List Addr)(aa:List au)(v:V)(t:Tr)(part:Str),vs=[.ref R,.ref d,v,.str part]/\aG K H R (rs.map V.ref)/\bJ K H rs aa/\jX H d aa/\gH K H t v/\(∀k cs,t=.n k cs->k < aa.length)/\Q (.bl (ie aa t part)) H
def Jy:aI ["rules","heads","child","part"] ["rules","heads","child","part"] (ay so):=iT rfl rfl rfl rfl nofun
def GO (F:iz K "is_child" "is_child" so f fd)(T:Txt mg):bR P w K mg base fY 1 f fd ["rules","heads","child","part"] (BV K):=by
 refine F.ok Jy (λvs H Q E h=>?_) (λeK A outer s H vs Q E hr h=>?_)
 .obtain⟨R,d,rs,aa,v,t,part,rfl,_⟩:=h;rfl
 obtain⟨R,d,rs,aa,v,t,part,rfl,hR,cT,⟨kE,uW,hd2⟩,ht,hk,q⟩:=h;have hu:=fX hr;have TF:=Nat.lt_of_succ_lt hu;refine⟨_,aj (bU (dH (jc hu (pv 3) (pv 1)))
   (ak (aQ (jN (Ge (aF cK rfl T.EV ka (ab (pv 2) (ab (gi (v:=.ty "str") rfl T.str jx rfl) ah))))
    (jM (fg iO (aP bq (aP bT (pv 0) (aP bq (pv 2) ar (λ_ _=>rfl)) (λ_ _=>rfl)) ar (λ_ _=>rfl)) (pv 3) (bW _)))))) aS)
  (ak (aQ (fg (Gn TF) (pv 2) (pv 3) (bW _)))),?_⟩
 nofun
 refine⟨_,rfl,_,rfl,d,_,rfl,bX.k (k:=Sum.inr part) uW,_,rfl,?_⟩;rw [hd2 part];refine cE (λc=>?_) (λc=>?_)
 .cases t with
  | w z =>
   unfold gH at ht;subst ht;have e:ie aa (.w z) part=false:=by
    unfold ie;rw [c];rfl
   rw [e] at q;refine⟨_,rfl,.str z,"str","str",true,rfl,.str z,dY,true,rfl,false,rfl,?_⟩;refine du ?_;exact q
  | n k cs =>
   unfold gH at ht;obtain⟨a,p,us,rfl,ha,hp,_⟩:=ht;have lk:=hk k cs rfl;have er:aa[k]?=some aa[k]:=b_ lk;obtain⟨r,err,p2,v1,v2⟩:=Paired.at_ cT k _ er;have Bi:lS (rs.map V.ref) (k:Int)=some (.ref r):=cf (by rw [bo,err];rfl);have e:ie aa (.n k cs) part=decide (V.str aa[k].1=V.str part):=by
    have eh:AV aa k=some aa[k].1:=by unfold AV;rw [er];rfl
    show (decide (part∈hd aa) && decide (AV aa k=some part))=_;rw [c,eh];rw [j5];by_cases h:aa[k].1=part
    .rw [bN (congrArg some h),bN (congrArg V.str h)]
    rw [cV (λz=>h (iw z)),cV (λz=>h (by injection z))]
   rw [e] at q;refine⟨_,rfl,.ref a,"tuple","str",false,rfl,.tup ha,wW,false,rfl,true,rfl,?_⟩;refine g9 ?_;exact⟨_,rfl,_,rfl,a,_,_,_,rfl,rfl,ha,rfl,R,_,_,_,rfl,rfl,hR,Bi,r,_,_,_,rfl,rfl,v1,rfl,_,rfl,rfl,q⟩
 have c':decide (part∈hd aa)=false:=by simpa using c
 cases t with
 | w z =>
  unfold gH at ht;subst ht;have e:ie aa (.w z) part=decide (V.str z=V.str part):=by
   unfold ie;rw [c'];show (true && decide (z=part))=_;rw [j5];by_cases h:z=part
   .rw [bN h,bN (congrArg V.str h)]
   rw [cV h,cV (λy=>h (by injection y))]
  rw [e] at q;exact⟨_,rfl,_,rfl,part,rfl,.inl ⟨z,rfl,q⟩⟩
 | n k cs =>
  unfold gH at ht;obtain⟨a,p,us,rfl,ha,hp,_⟩:=ht;have e:ie aa (.n k cs) part=false:=by
   unfold ie;rw [c'];rfl
  rw [e] at q;exact⟨_,rfl,_,rfl,part,rfl,.inr ⟨a,_,rfl,ha,q⟩⟩
def xU (K:a8):Sp:=λvs H Q _=>∃(d Pl:Addr)(aa:List au)(us:List V)(y:V),vs=[.ref d,.ref Pl,y]/\jX H d aa/\H Pl=some (.lst us)/\us.length<=100000/\((∃z,y=.str z/\z∉hd aa/\Q (.bl true) (upd H Pl (.lst (us++[.str z]))))\/(∃z,y=.str z/\z∈hd aa/\Q (.bl false) H)\/∃n,y=.int n/\Q (.bl false) H)
def Fz:aI ["heads","pile","word"] ["heads","pile","word"] (ay wu):=iT rfl rfl rfl rfl nofun
def Dr (F:iz K "do_step" "do_step" wu f fd)(T:Txt mg):bR P w K mg base fY 1 f fd ["heads","pile","word"] (xU K):=by
 refine F.ok Fz (λvs H Q E h=>?_) (λeK A outer s H vs Q E hr h=>?_)
 .obtain⟨d,Pl,aa,us,z,rfl,_⟩:=h;rfl
 obtain⟨d,Pl,aa,us,y,rfl,⟨kE,uW,hd2⟩,hP,hl,h⟩:=h;have hu:=fX hr;refine⟨_,aj (bU (PW.pt (kZ (iM (dG (aF cK rfl T.EV ka (ab (pv 2) (ab (gi (v:=.ty "str") rfl T.str jx rfl) ah)))))
   (jK (dH (jc hu (pv 2) (pv 0)))))) (ak (aQ dW)) aS)
  (aj (cC (gR f_ gK gL bM (pv 1) (ab (pv 2) ah)))
  (ak (aQ dW))),?_⟩
 nofun
 rcases h with ⟨z,rfl,hz,q⟩ | ⟨z,rfl,hz,q⟩ | ⟨n,rfl,q⟩
 .refine⟨_,rfl,.str z,"str","str",true,rfl,.str z,dY,true,rfl,?_⟩;refine du ?_;refine⟨_,rfl,_,rfl,d,_,rfl,bX.k (k:=Sum.inr z) uW,_,rfl,?_⟩;rw [hd2 z,cV hz];refine du ?_;exact⟨_,rfl,.inl ⟨rfl,_,aG.of hP⟩,_,rfl,Pl,_,_,rfl,rfl,hP,bF ∅,q⟩
 .refine⟨_,rfl,.str z,"str","str",true,rfl,.str z,dY,true,rfl,?_⟩;refine du ?_;refine⟨_,rfl,_,rfl,d,_,rfl,bX.k (k:=Sum.inr z) uW,_,rfl,?_⟩;rw [hd2 z,bN hz];refine g9 ?_;exact q
 refine⟨_,rfl,.int n,"int","str",false,rfl,.int n,kit_is,false,rfl,?_⟩;refine g9 ?_;exact q
theorem Cr {aa:List au}:∀{ts:List Tr}{ps:List Str}{i:Nat}{t:Tr}{p:Str},ku aa ts ps=true->ts[i]?=some t->ps[i]?=some p->ie aa t p=true
 | [],[],_,_,_,_,e,_=>by cases e
 | [],_::_,_,_,_,f,_,_=>by cases f
 | _::_,[],_,_,_,f,_,_=>by cases f
 | a::ts,b::ps,0,t,p,f,e1,e2=>by
  have f2:=fk.mp (show (ie aa a b && ku aa ts ps)=true from f);cases e1;cases e2;exact f2.1
 | a::ts,b::ps,i+1,t,p,f,e1,e2=>by
  have f2:=fk.mp (show (ie aa a b && ku aa ts ps)=true from f);exact Cr f2.2 e1 e2
theorem xb {aa:List au}:∀{ts:List Tr}{ps:List Str},ts.length=ps.length->(∀(i:Nat) t p,ts[i]?=some t->ps[i]?=some p->ie aa t p=true)->ku aa ts ps=true
 | [],[],_,_=>rfl
 | [],_::_,e,_=>by cases e
 | _::_,[],e,_=>by cases e
 | a::ts,b::ps,e,h=>by
  show (ie aa a b && ku aa ts ps)=true;rw [h 0 a b rfl rfl,xb (Nat.succ.inj e) λi t p e1 e2=>h (i+1) t p e1 e2];rfl
end
theorem qf {α β:Type}{F:α->β->Prop}:∀{xs:List α}{ys:List β},Paired F xs ys->∀n,Paired F (xs.take n) (ys.take n)
 | _,_,_,0=>by rw [oU,oU];exact .nil
 | _,_,.nil,_+1=>.nil
 | _,_,.cons a b,n+1=>.cons a (qf b n)
theorem qh {α β:Type}{F:α->β->Prop}:∀{xs:List α}{ys:List β},Paired F xs ys->∀n,Paired F (xs.drop n) (ys.drop n)
 | _,_,h,0=>h
 | _,_,.nil,_+1=>.nil
 | _,_,.cons a b,n+1=>qh b n
def CS {α:Type}{us:List α}{n:Nat}(h:n < us.length):us.take (n+1)=us.take n++[us[n]]:=by
 rw [cQ,b_ h];rfl
section
structure YF (K:a8)(H:Hp)(R d Pl:Addr)(rs:List Addr)(aa:List au)(us:List V)(ts:List Tr):Prop where
 hR:H R=some (.lst (rs.map V.ref))
 cT:bJ K H rs aa
 uW:jX H d aa
 hP:H Pl=some (.lst us)
 pl:xq K H us ts
 A4:us.length<=100000
 nR:R≠Pl
 sh:∀ru∈aa,ru.2.length<=8
 sr:aa.length<=1000
 top:∀j cs,Tr.n j cs∈ts->j < aa.length
def xV (K:a8):Sp:=λvs H Q _=>∃(R d Pl:Addr)(rs:List Addr)(aa:List au)(us:List V)(ts:List Tr)(y:V),vs=[.ref R,.ref d,.ref Pl,y]/\YF K H R d Pl rs aa us ts/\((Iy aa.length y/\Q (.bl false) H)\/∃k:Nat,y=.int (k:Int)/\k < aa.length /\
 (∀H',cY Pl H H'->ic aa k ts=none->Q (.bl false) H')/\(∀H' EL kc,cY Pl H H'->ic aa k ts=some kc->H' Pl=some (.lst EL)->xq K H' EL kc->EL.length<=us.length+1->Q (.bl true) H'))
def sg:aI ["rules","heads","pile","number","children","part"] ["rules","heads","pile","number"] (ay wy):=iT rfl rfl rfl rfl nofun
def Ds (F:iz K "do_make" "do_make" wy f fd)(T:Txt mg)(GB:aE P w K mg base 1 "is_number_below" ["number","many"] BX)(GC:aE P w K mg base 1 "is_child" ["rules","heads","child","part"] (BV K)):bR P w K mg base fY 2 f fd ["rules","heads","pile","number"] (xV K):=by
 refine F.ok sg (λvs H Q E h=>?_) (λeK A outer s H vs Q E hr h=>?_)
 .obtain⟨R,d,Pl,rs,aa,us,ts,k,rfl,_⟩:=h;rfl
 obtain⟨R,d,Pl,rs,aa,us,ts,y,rfl,M,h⟩:=h;refine⟨_,aj (bU (iM (dG (bc GB hr rfl (ab (pv 3) (ab (aF aK rfl T.len dJ (ab (pv 0) ah)) ah))))) (ak (aQ dW)) aS)
  (aj (aC (i:=4) sg.nd rfl (bB rfl) (bA ah))
  (aj (bK b9 rfl (fI (MZ (aP bq (aP bT (pv 0) (pv 3) (λ_ _=>rfl)) ar (λ_ _=>rfl)))) (ao (i:=5) sg.nd rfl (bB rfl))
   (aj (bU (PW.pt (kZ (iM (iL (pv 2) (λ_=>rfl))) (jK (iM (dG (bc GC hr rfl (ab (pv 0) (ab (pv 1) (ab (aP bT (pv 2) (l7 ja ar) (λ_ _=>rfl)) (ab (pv 5) ah)))))))))) (ak (aQ dW)) aS)
   (ak (cC (gR f_ gK gL bM (pv 4) (ab (Gi f_ PySem.F.slot_list_pop PySem.F.type_list_pop G4 (pv 2)) ah))))))
  (aj (cC (gR f_ gK gL bM (pv 2) (ab (bS (ab (pv 3) (ab (aV eY rfl T.tup qc (ab (JE (pv 4)) ah)) ah))) ah)))
  (ak (aQ dW))))),?_⟩
 nofun
 have ll:=a_ M.cT;rcases h with ⟨nn,q⟩ | ⟨k,rfl,lk,q0,q1⟩
 .refine⟨_,rfl,_,rfl,R,_,rfl,.inl (aG.of M.hR),y,rs.length,(by show [y,V.int ((rs.map V.ref).length:Int)]=_;rw [av]),.inr ⟨by rw [ll];exact nn,false,rfl,?_⟩⟩;refine g9 ?_;exact q
 have lp:=a_ M.pl;have fw:=M.A4;have er:aa[k]?=some aa[k]:=b_ lk;generalize iS:aa[k]=ru at er;have h8:=M.sh ru (b8 er);obtain⟨r,err,p,v1,v2⟩:=Paired.at_ M.cT k ru er;have Bi:lS (rs.map V.ref) (k:Int)=some (.ref r):=cf (by rw [bo,err];rfl);refine⟨_,rfl,_,rfl,R,_,rfl,.inl (aG.of M.hR),_,(rs.map V.ref).length,rfl,.inl ⟨k,rfl,by rw [av];omega,true,rfl,?_⟩⟩;refine du ?_;refine⟨rM,λC hC=>?_⟩;have s1:=af hC (.lst []);have ZA:C≠Pl:=λz=>by rw [z,M.hP] at hC;cases hC
 have eC1:upd H C (.lst []) C=some (.lst []):=ae;generalize upd H C (.lst [])=H1 at s1 eC1;refine⟨_,rfl,_,rfl,R,_,_,_,rfl,rfl,aG.of (s1 _ _ M.hR),Bi,r,_,_,_,rfl,rfl,s1.tup v1,rfl,p,_,rfl,s1.tup v2,λp2 oM=>?_⟩;have s2:=s1.trans (af oM (.tup (ru.2.map V.str).reverse));have LN:=af oM (.tup (ru.2.map V.str).reverse) _ _ eC1;have LH:aR K (upd H1 p2 (.tup (ru.2.map V.str).reverse)) p2 (ru.2.map V.str).reverse:=aR.of ae;generalize upd H1 p2 (.tup (ru.2.map V.str).reverse)=H2 at s2 LN LH;rw [<-List.map_reverse] at LH
 let Kq:Hp->Prop:=λH5=>cY Pl H H5/\aR K H5 p2 (ru.2.reverse.map V.str)
 have Nk:∀{H5:Hp},Kq H5->∀a xs,aR K H a xs->aR K H5 a xs:=λkq a xs z=>by
  rcases z with (z | ⟨u,z⟩) | z
  .exact .inl (.inl (kq.1 _ _ (λy=>by rw [y,M.hP] at z;cases z) z))
  .exact .inl (.inr ⟨u,kq.1 _ _ (λy=>by rw [y,M.hP] at z;cases z) z⟩)
  exact .inr z
 have Zr:∀kc,ic aa k ts=some kc->ru.2.length<=ts.length/\ku aa (ts.drop (ts.length - ru.2.length)) ru.2=true:=λkc e=>by
  obtain⟨IJ,e1,e2,e3,_⟩:=jR e;rw [er] at e1;cases e1;exact⟨e2,e3⟩
 have none_of:(∀kc,ic aa k ts≠some kc)->ic aa k ts=none:=λh=>by
  cases e:ic aa k ts with
  | none=>rfl
  | some x=>exact absurd e (h x)
 refine⟨p2,rfl,⟨_,LH⟩,?_⟩
 let qF:pU:=λi σ H5=>∃(y5:Option V),σ=[aM R,aM d,aM Pl,some (.int (k:Int)),aM C,y5]/\Kq H5/\i<=us.length/\H5 Pl=some (.lst (us.take (us.length - i)))/\H5 C=some (.lst (us.drop (us.length - i)).reverse) /\
  ∀(j:Nat) t x,j < i->ts[ts.length - 1 - j]?=some t->ru.2.reverse[j]?=some x->ie aa t x=true
 refine oz (xs:=ru.2.reverse.map V.str) qF ⟨none,rfl,⟨λb o _ hb=>s2 _ _ hb,LH⟩,fj _,by rw [mq,cP];exact s2 _ _ M.hP,by rw [mq,List.drop_length];exact LN,λj _ _ h=>by omega⟩ ?_ ?_ ?_
 .rintro i σ H5 _ ⟨y5,rfl,kq,_⟩;exact kq.2
 .rintro i x σ H5 ex ⟨y5,rfl,kq,li,eP,eC,fa⟩
  ac_nf0
  rw [bo] at ex;obtain⟨x,Ud,rfl⟩:=cg.mp ex;have lx:=(bj.mp Ud).1;rw [qS] at lx;refine goN ?_
  ac_rfl
  refine⟨_,rfl,!(us.take (us.length - i)).isEmpty,.inl ⟨_,aG.of eP,rfl⟩,?_⟩;refine cE (λc=>?_) (λc=>?_)
  .have e0:us.take (us.length - i)=[]:=by
    cases hh:us.take (us.length - i) with
    | nil=>rfl
    | cons a b=>rw [hh] at c;cases c
   have l0:=congrArg List.length e0;rw [dD,iX] at l0;refine q0 H5 kq.1 (none_of λkc e=>?_);have:=(Zr kc e).1;omega
  have ln:us.length - i≠0:=λz=>by rw [z,oU] at c;exact c rfl
  obtain⟨m,hm⟩:∃m,us.length - i=m+1:=⟨us.length - i - 1,∅⟩;have lm:m < us.length:=by omega
  have et:us.take (us.length - i)=us.take m++[us[m]]:=by rw [hm];exact CS lm
  have em:us[m]?=some us[m]:=b_ lm;have RU:ts[m]?=some (ts[m]'∅):=b_ ∅;obtain⟨u,eu,tv⟩:=Paired.at_ M.pl m _ RU;rw [em] at eu;have eu:us[m]=u:=iw eu;generalize htm:ts[m]'∅=t0 at RU tv;have UX:=gH.keep (Nk kq) t0 tv;have atl:lS (us.take m++[u]) (-1)=some u:=Ij _ _;rw [et,eu] at eP;have tp:∀j cs,t0=.n j cs->j < aa.length:=λj cs e=>M.top j cs (e ▸ b8 RU);refine⟨_,rfl,_,rfl,_,rfl,_,rfl,Pl,_,_,_,rfl,rfl,aG.of eP,atl,_,rfl,R,d,rs,aa,u,t0,x,rfl,aG.of (kq.1 _ _ M.nR M.hR),M.cT.keep (Nk kq),?_,UX,tp,?_⟩
  .obtain⟨kE,a1,a2⟩:=M.uW;exact⟨kE,kq.1 _ _ (λz=>by rw [z,M.hP] at a1;cases a1) a1,a2⟩
  refine⟨_,rfl,?_⟩;refine cE (λc2=>?_) (λc2=>?_)
  .have Pg:ie aa t0 x=false:=by simpa using c2
   refine q0 H5 kq.1 (none_of λkc e=>?_);obtain⟨a1,a2⟩:=Zr kc e;have a3:(ts.drop (ts.length - ru.2.length))[ru.2.length - 1 - i]?=some t0:=by
    rw [List.getElem?_drop,<-RU]
    congr 1
    omega
   have a4:ru.2[ru.2.length - 1 - i]?=some x:=by
    rw [vL lx] at Ud;exact Ud
   rw [Cr a2 a3 a4] at Pg;cases Pg
  have Pg:ie aa t0 x=true:=by
   cases hh:ie aa t0 x with
   | true=>rfl
   | false=>rw [hh] at c2;exact absurd rfl c2
  have nPC:Pl≠C:=ZA.symm;refine⟨_,rfl,.inl ⟨rfl,_,aG.of eC⟩,_,rfl,.inl ⟨rfl,_,aG.of eP⟩,Pl,_,u,rfl,rfl,eP,yc,?_⟩;rw [pb];have Sf:upd H5 Pl (.lst (us.take m)) C=some (.lst (us.drop (us.length - i)).reverse):=by rw [ai ZA];exact eC
  refine⟨C,_,_,rfl,rfl,Sf,bF (by rw [qS,mw];omega),?_⟩;have em1:us.length - (i+1)=m:=by omega
  have ed:(us.drop m).reverse=(us.drop (us.length - i)).reverse++[u]:=by
   rw [hm,List.drop_eq_getElem_cons lm,mC,eu]
  refine⟨_,rfl,⟨λb o nb hb=>?_,?_⟩,∅,?_,?_,λj t x2 hj e1 e2=>?_⟩
  .rw [ai (λz=>by rw [z,hC] at hb;cases hb),ai nb];exact kq.1 b o nb hb
  .exact aW Sf (aW eP kq.2)
  .rw [em1,ai nPC,ae]
  .rw [em1,ae,ed]
  by_cases cj:j < i
  .exact fa j t x2 cj e1 e2
  have:j=i:=by omega
  subst this;rw [Ud] at e2;cases e2;have e3:ts[ts.length - 1 - j]?=some t0:=by rw [<-RU];congr 1;omega
  rw [e3] at e1;cases e1;exact Pg
 rintro σ H5 ⟨y5,rfl,kq,li,eP,eC,fa⟩;rw [av,qS] at li eP eC fa;have fl:ku aa (ts.drop (ts.length - ru.2.length)) ru.2=true:=xb (by rw [mw];omega) λi t x e1 e2=>by
  have l2:=(bj.mp e2).1;rw [List.getElem?_drop] at e1;refine fa (ru.2.length - 1 - i) t x ∅ ?_ ?_
  .rw [<-e1];congr 1;omega
  rw [vL ∅,<-e2];congr 1;omega
 have mk:ic aa k ts=some (ts.take (ts.length - ru.2.length)++[.n k (gW.n6 (ts.drop (ts.length - ru.2.length)))]):=by
  unfold ic;rw [er];show (if (decide (ru.2.length<=ts.length) && ku aa (ts.drop (ts.length - ru.2.length)) ru.2)=true then _ else none)=_;rw [ax (by rw [fl,bN ∅];rfl)]
 refine⟨_,rfl,.inl ⟨rfl,_,aG.of eP⟩,_,rfl,_,rfl,C,_,rfl,aG.of eC,λL2 DU=>?_⟩;rw [List.reverse_reverse];have s6:=af DU (.lst (us.drop (us.length - ru.2.length)));have HY:upd H5 L2 (.lst (us.drop (us.length - ru.2.length))) L2=some (.lst (us.drop (us.length - ru.2.length))):=ae;generalize upd H5 L2 (.lst (us.drop (us.length - ru.2.length)))=H6 at s6 HY;refine⟨L2,_,rfl,.inl ⟨aG.of HY,λt2 jz=>⟨oK,λnd ND=>?_⟩⟩⟩;have s8:=s6.trans ((af jz (.tup (us.drop (us.length - ru.2.length)))).trans (af ND (.tup [.int (k:Int),.ref t2])));have vt:aR K (upd (upd H6 t2 (.tup (us.drop (us.length - ru.2.length)))) nd (.tup [.int (k:Int),.ref t2])) t2 (us.drop (us.length - ru.2.length)):=(af ND _).tup (aR.of ae);have vn:aR K (upd (upd H6 t2 (.tup (us.drop (us.length - ru.2.length)))) nd (.tup [.int (k:Int),.ref t2])) nd [.int (k:Int),.ref t2]:=aR.of ae;generalize upd (upd H6 t2 (.tup (us.drop (us.length - ru.2.length)))) nd (.tup [.int (k:Int),.ref t2])=H8 at s8 vt vn;have Uo:=s8 _ _ eP;refine⟨Pl,_,_,rfl,rfl,Uo,bF (by rw [dD];omega),?_⟩;have kt:∀a xs,aR K H a xs->aR K (upd H8 Pl (.lst (us.take (us.length - ru.2.length)++[.ref nd]))) a xs:=λa xs z=>aW Uo (s8.tup (Nk kq a xs z));have MX:=xq.keep kt M.pl;refine q1 _ _ _ (λb o nb hb=>?_) mk ae ?_ (by rw [bp,dD,d_];omega)
 .rw [ai nb];exact s8 _ _ (kq.1 b o nb hb)
 rw [<-lp];refine cv (qf MX _) (.cons ?_ .nil);unfold gH;exact⟨nd,t2,us.drop (us.length - ru.2.length),rfl,aW Uo vn,aW Uo vt,iq.Tj (qh MX _)⟩
end
def Oa {z y:Str}(h:z≠y):u3 (.str z) (.str y)=false:=by
 simp [u3,h]
def E9.last {m:Nat}{H:Hp}{a:Addr}:∀{de:De},E9 m H a de->∃xs,H a=some (.tup xs)/\xs.all gZ=true/\((de=.dn/\xs=[.str "done"])\/(de≠.dn/\Ed xs [.str "done"]=false))
 | .d (.step z),h=>⟨_,h,rfl,.inr ⟨(λe=>by cases e),by show (_ && false)=false;rw [oS]⟩⟩
 | .d (.make k),h=>⟨_,h,rfl,.inr ⟨(λe=>by cases e),by show (_ && false)=false;rw [oS]⟩⟩
 | .si n,h=>⟨_,h,rfl,.inr ⟨(λe=>by cases e),by show (_ && false)=false;rw [oS]⟩⟩
 | .no,⟨xs,h,b⟩=>by
  refine⟨xs,h,?_⟩;rcases b with ⟨z,rfl,hz⟩ | ⟨z,y,rfl,_,_⟩ | ⟨y,rfl,hn⟩
  .refine⟨rfl,.inr ⟨(λe=>by cases e),?_⟩⟩;show (u3 (.str z) (.str "done") && true)=false;rw [Bool.and_true];exact Oa hz
  .exact⟨rfl,.inr ⟨(λe=>by cases e),by show (_ && false)=false;rw [oS]⟩⟩
  refine⟨?_,.inr ⟨(λe=>by cases e),by show (_ && false)=false;rw [oS]⟩⟩;rcases hn with ⟨n,rfl,_⟩ | ⟨t,rfl⟩ | ⟨z,rfl⟩ <;> rfl
 | .dn,h=>⟨_,h,rfl,.inl ⟨rfl,rfl⟩⟩
section
def xW (K:a8):Sp:=λvs H Q _=>∃(R d Pl a:Addr)(rs:List Addr)(aa:List au)(us:List V)(ts:List Tr)(de:De),vs=[.ref R,.ref d,.ref Pl,.ref a]/\YF K H R d Pl rs aa us ts/\E9 aa.length H a de/\IG aa de /\
 (∀H',cY Pl H H'->mV aa ts de=none->Q (.bl false) H')/\(∀H' EL kc,cY Pl H H'->mV aa ts de=some kc->H' Pl=some (.lst EL)->xq K H' EL kc->EL.length<=us.length+1->Q (.bl true) H')
def FA:aI ["rules","heads","pile","deed"] ["rules","heads","pile","deed"] (ay wz):=iT rfl rfl rfl rfl nofun
def Dt (F:iz K "do_deed" "do_deed" wz f fd)(T:Txt mg)(GS:aE P w K mg base 2 "do_step" ["heads","pile","word"] (xU K))(GM:aE P w K mg base 2 "do_make" ["rules","heads","pile","number"] (xV K)):bR P w K mg base fY 3 f fd ["rules","heads","pile","deed"] (xW K):=by
 refine F.ok FA (λvs H Q E h=>?_) (λeK A outer s H vs Q E hr h=>?_)
 .obtain⟨R,d,Pl,a,rs,aa,us,ts,de,rfl,_⟩:=h;rfl
 obtain⟨R,d,Pl,a,rs,aa,us,ts,de,rfl,M,hv,ok,q0,q1⟩:=h;have fw:=M.A4;have same:cY Pl H H:=λ_ _ _ h=>h;refine⟨_,aj (bU (bw Ce (aF aK rfl T.len dJ (ab (pv 3) ah)) ar (bW _)) (ak (aQ dW)) aS)
  (aj (bU (bw iO (aP bq (pv 3) ar (λ_ _=>rfl)) cD (bW _)) (ak (aQ (bc GS hr rfl (ab (pv 1) (ab (pv 2) (ab (aP bq (pv 3) ar (λ_ _=>rfl)) ah)))))) aS)
  (ak (aQ (jN (fg iO (aP bq (pv 3) ar (λ_ _=>rfl)) cD (bW _)) (jM (bc GM hr rfl (ab (pv 0) (ab (pv 1) (ab (pv 2) (ab (aP bq (pv 3) ar (λ_ _=>rfl)) ah)))))))))),?_⟩
 nofun
 have one:∀{z:Str},H a=some (.tup [.str z])->mV aa ts de=none->∃x,([some (V.ref R),aM d,aM Pl,aM a]:St)[3]?=some (some x)/\True:=λ_ _=>⟨_,rfl,trivial⟩;cases de with
 | d y =>
  cases y with
  | step z =>
   have hv:aR K H a [.str "step",.str z]:=aR.of hv;refine⟨_,rfl,a,_,rfl,.inr hv,rfl,false,rfl,?_⟩;refine du ?_;refine⟨_,rfl,a,_,_,_,rfl,rfl,hv,rfl,rfl,true,rfl,?_⟩;refine g9 ?_;by_cases c:z∈hd aa
   .refine⟨_,rfl,_,rfl,_,rfl,a,_,_,_,rfl,rfl,hv,rfl,d,Pl,aa,us,.str z,rfl,M.uW,M.hP,fw,.inr (.inl ⟨z,rfl,c,?_⟩)⟩;exact q0 H same (show (if z∈hd aa then none else some (ts++[Tr.w z]))=_ from ax c)
   refine⟨_,rfl,_,rfl,_,rfl,a,_,_,_,rfl,rfl,hv,rfl,d,Pl,aa,us,.str z,rfl,M.uW,M.hP,fw,.inl ⟨z,rfl,c,?_⟩⟩;refine q1 _ _ (ts++[.w z]) (λb o nb hb=>by rw [ai nb];exact hb) (show (if z∈hd aa then none else some (ts++[Tr.w z]))=_ from aw c) ae ?_ (by rw [bp];simp);refine cv (xq.keep (λ_ _ z=>aW M.hP z) M.pl) (.cons ?_ .nil);unfold gH;rfl
  | make k =>
   have hv:aR K H a [.str "make",.int (k:Int)]:=aR.of hv;refine⟨_,rfl,a,_,rfl,.inr hv,rfl,false,rfl,?_⟩;refine du ?_;refine⟨_,rfl,a,_,_,_,rfl,rfl,hv,rfl,rfl,false,rfl,?_⟩;refine du ?_;refine⟨_,rfl,a,_,_,_,rfl,rfl,hv,rfl,rfl,true,rfl,?_⟩;refine g9 ?_;exact⟨_,rfl,_,rfl,_,rfl,_,rfl,a,_,_,_,rfl,rfl,hv,rfl,R,d,Pl,rs,aa,us,ts,_,rfl,M,.inr ⟨k,rfl,ok,q0,q1⟩⟩
 | si n =>
  have hv:aR K H a [.str "step",.int n]:=aR.of hv;refine⟨_,rfl,a,_,rfl,.inr hv,rfl,false,rfl,?_⟩;refine du ?_;refine⟨_,rfl,a,_,_,_,rfl,rfl,hv,rfl,rfl,true,rfl,?_⟩;refine g9 ?_;refine⟨_,rfl,_,rfl,_,rfl,a,_,_,_,rfl,rfl,hv,rfl,d,Pl,aa,us,.int n,rfl,M.uW,M.hP,fw,.inr (.inr ⟨n,rfl,?_⟩)⟩;exact q0 H same rfl
 | no =>
  obtain⟨xs,hv,bd⟩:=hv;have hv:aR K H a xs:=aR.of hv;rcases bd with ⟨z,rfl,_⟩ | ⟨z,y,rfl,n1,n2⟩ | ⟨y,rfl,hn⟩
  .refine⟨_,rfl,a,_,rfl,.inr hv,rfl,true,rfl,?_⟩;refine g9 ?_;exact q0 H same rfl
  .refine⟨_,rfl,a,_,rfl,.inr hv,rfl,false,rfl,?_⟩;refine du ?_;refine⟨_,rfl,a,_,_,_,rfl,rfl,hv,rfl,rfl,false,?_,?_⟩
   .show V.bl (decide (V.str z=V.str "step"))=V.bl false;rw [cV λe=>n1 (by injection e)]
   refine du ?_;refine⟨_,rfl,a,_,_,_,rfl,rfl,hv,rfl,rfl,false,?_,?_⟩
   .show V.bl (decide (V.str z=V.str "make"))=V.bl false;rw [cV λe=>n2 (by injection e)]
   refine du ?_;have e:V.bl (decide (V.str z=V.str "make"))=V.bl false:=by rw [cV λe=>n2 (by injection e)]
   first
    | exact q0 H same rfl
    | (rw [e];exact q0 H same rfl)
    | (show Q (V.bl (decide (V.str z=V.str "make"))) H;rw [e];exact q0 H same rfl)
  refine⟨_,rfl,a,_,rfl,.inr hv,rfl,false,rfl,?_⟩;refine du ?_;refine⟨_,rfl,a,_,_,_,rfl,rfl,hv,rfl,rfl,false,rfl,?_⟩;refine du ?_;refine⟨_,rfl,a,_,_,_,rfl,rfl,hv,rfl,rfl,true,rfl,?_⟩;refine g9 ?_;exact⟨_,rfl,_,rfl,_,rfl,_,rfl,a,_,_,_,rfl,rfl,hv,rfl,R,d,Pl,rs,aa,us,ts,_,rfl,M,.inl ⟨hn,q0 H same rfl⟩⟩
 | dn =>
  have hv:aR K H a [.str "done"]:=aR.of hv;refine⟨_,rfl,a,_,rfl,.inr hv,rfl,true,rfl,?_⟩;refine g9 ?_;exact q0 H same rfl
def Et (l:List Addr)(n:Addr):gq ((l++[n]).map V.ref) (some (-1)) none=[V.ref n]:=by
 unfold gq;have h1:HT.fA ((l++[n]).map V.ref).length 0 (some (-1))=l.length:=by
  rw [av,bp,d_];show (if (-1:Int) < 0 then ((-1:Int)+((l.length+1:Nat):Int)).toNat else min (-1:Int).toNat (l.length+1))=l.length;rw [ax nofun];omega
 rw [h1,HT.jl,<-List.map_drop,List.drop_append_of_le_length (aD _),List.drop_length,kR];rw [av,bp,d_,show l.length+1 - l.length=1 by omega];rfl
def u7 (l:List Addr)(n:Addr):gq ((l++[n]).map V.ref) none (some (-1))=l.map V.ref:=by
 unfold gq;have h1:HT.fA ((l++[n]).map V.ref).length ((l++[n]).map V.ref).length (some (-1))=l.length:=by
  rw [av,bp,d_];show (if (-1:Int) < 0 then ((-1:Int)+((l.length+1:Nat):Int)).toNat else min (-1:Int).toNat (l.length+1))=l.length;rw [ax nofun];omega
 rw [h1,HT.jl,q_,mq,<-oQ,qe (aD _),cP]
def xQ (K:a8):Sp:=λvs H Q _=>∃(R L:Addr)(rs as:List Addr)(aa:List au)(es:List De),vs=[.ref R,.ref L]/\H R=some (.lst (rs.map V.ref))/\bJ K H rs aa/\(∀ru∈aa,ru.2.length<=8)/\aa.length<=1000/\aG K H L (as.map V.ref)/\Bs aa.length H as es/\(∀d∈es,IG aa d)/\es.length<=90000 /\
 ∀H',aB H H'->(resT aa es=none->Q .eV H')/\∀t v,resT aa es=some t->gH K H' t v->Q v H'
def nP:aI ["rules","deeds","heads","pile","deed"] ["rules","deeds"] (ay wg):=iT rfl rfl rfl rfl nofun
def Dl (F:iz K "tree_of" "tree_of" wg f fd)(T:Txt mg)(GH:aE P w K mg base 3 "heads_of" ["rules"] (jG K))(GD:aE P w K mg base 3 "do_deed" ["rules","heads","pile","deed"] (xW K)):bR P w K mg base fY 4 f fd ["rules","deeds"] (xQ K):=by
 refine F.ok nP (λvs H Q E h=>?_) (λeK A outer s H vs Q E hr h=>?_)
 .obtain⟨R,L,rs,as,aa,es,rfl,_⟩:=h;rfl
 obtain⟨R,L,rs,as,aa,es,rfl,hR,cT,h8,br,hL,D0,Us,dl,q⟩:=h;have Q4:=fX hr;refine⟨_,aj (bU (bw (Gm Q4) (fJ jH (pv 1) (fc (l7 ja ar)) hJ) (bA (ab (bS (ab cD ah)) ah)) (bW _)) (ak (aQ Am)) aS)
  (aj (aC (i:=2) nP.nd rfl (bB rfl) (aV (dP rfl) rfl T.Bc fO (ab (ba ["head"] [] rfl (aX (bc GH hr rfl (ab (pv 0) ah))) (a9 rfl rfl) nofun rfl nofun
   (λ_ _ _ _ _=>ao (i:=0) (show (["head"]:List Str).Nodup by decide +kernel) rfl (bB rfl)) (λ_ _ _ _ _=>bQ) (λ_ _ _ _ _=>bS (ab (pv 0) (ab dW ah)))) ah)))
  (aj (aC (i:=3) nP.nd rfl (bB rfl) (bA ah))
  (aj (bK b9 rfl (aX (fJ jH (pv 1) hJ (fc (l7 ja ar)))) (ao (i:=4) nP.nd rfl (bB rfl))
   (ak (bU (iM (dG (bc GD hr rfl (ab (pv 0) (ab (pv 2) (ab (pv 3) (ab (pv 4) ah))))))) (ak (aQ Am)) aS)))
  (ak (aQ (sE (PW.pt (jb (bw iO (aF aK rfl T.len dJ (ab (pv 3) ah)) ar (bW _)) (iA (iM (dG (aF cK rfl T.EV ka (ab (aP bT (pv 3) ar (λ_ _=>rfl)) (ab (gi (v:=.ty "str") rfl T.str jx rfl) ah)))))))) (aP bT (pv 3) ar (λ_ _=>rfl)) Am)))))),?_⟩
 nofun
 refine⟨_,rfl,_,rfl,_,rfl,L,_,rfl,hL,λC1 Ua=>?_⟩;have lae:=a_ D0;by_cases ca:as=[]
 .subst ca;have ee:es=[]:=rK.mp lae.symm;subst ee;have s1:=af Ua (.lst (gq (([]:List Addr).map V.ref) (some (-1)) none));have e1:upd H C1 (.lst (gq (([]:List Addr).map V.ref) (some (-1)) none)) C1=some (.lst []):=ae;generalize upd H C1 (.lst (gq (([]:List Addr).map V.ref) (some (-1)) none))=H1 at s1 e1;refine⟨xE,λt1 Lu=>⟨xE,λC2 IX=>?_⟩⟩;have k3:=(af Lu (.tup [V.str "done"])).trans (af IX (.lst [V.ref t1]));have et:aR K (upd (upd H1 t1 (.tup [V.str "done"])) C2 (.lst [V.ref t1])) t1 [.str "done"]:=(af IX _).tup (aR.of ae);have LN:upd (upd H1 t1 (.tup [V.str "done"])) C2 (.lst [V.ref t1]) C2=some (.lst [V.ref t1]):=ae;generalize upd (upd H1 t1 (.tup [V.str "done"])) C2 (.lst [V.ref t1])=H3 at k3 et LN;refine⟨C1,C2,_,t1,_,rfl,rfl,aG.of (k3 _ _ e1),aG.of LN,et,rfl,.inl ⟨rfl,true,rfl,?_⟩⟩;refine g9 ?_;exact(q H3 (s1.trans k3)).1 rfl
 obtain⟨Ph,a0,N_,e0,rfl,rfl,DP,SS⟩:=yf D0 ca;rw [Et];obtain⟨xs0,ZV,fx0,X_⟩:=SS.last;have s1:=af Ua (.lst [V.ref a0]);have e1:upd H C1 (.lst [V.ref a0]) C1=some (.lst [V.ref a0]):=ae;generalize upd H C1 (.lst [V.ref a0])=H1 at s1 e1;refine⟨xE,λt1 Lu=>⟨xE,λC2 IX=>?_⟩⟩;have na:a0≠t1:=λz=>by rw [<-z,s1 _ _ ZV] at Lu;cases Lu
 have k3:=(af Lu (.tup [V.str "done"])).trans (af IX (.lst [V.ref t1]));have et:aR K (upd (upd H1 t1 (.tup [V.str "done"])) C2 (.lst [V.ref t1])) t1 [.str "done"]:=(af IX _).tup (aR.of ae);have LN:upd (upd H1 t1 (.tup [V.str "done"])) C2 (.lst [V.ref t1]) C2=some (.lst [V.ref t1]):=ae;generalize upd (upd H1 t1 (.tup [V.str "done"])) C2 (.lst [V.ref t1])=H3 at k3 et LN;have s3:=s1.trans k3;refine⟨C1,C2,_,t1,_,rfl,rfl,aG.of (k3 _ _ e1),aG.of LN,et,rfl,.inr ⟨a0,xs0,rfl,na,aR.of (s3 _ _ ZV),fx0,_,rfl,?_⟩⟩;rcases X_ with ⟨rfl,rfl⟩ | ⟨nd,X_⟩
 rotate_left
 .rw [X_];refine g9 ?_;refine(q H3 s3).1 ?_;unfold resT;rw [rF,rJ];cases e0 with
  | dn=>exact absurd rfl nd
  | d x=>rfl
  | si n=>rfl
  | no=>rfl
 refine du ?_;have q2:∀H',aB H H'->(Eg (fP (mV aa) N_ [])=none->Q .eV H')/\∀t v,Eg (fP (mV aa) N_ [])=some t->gH K H' t v->Q v H':=λH' s=>by
  have:=q H' s;unfold resT at this;rw [rF,rJ,pb] at this;exact this
 have X4:∀d∈N_,IG aa d:=λd h=>Us d (iH _ h);have dl0:N_.length<=90000:=by rw [bp] at dl;omega
 have R3:=s3 _ _ hR;have Vq:=cT.same s3;refine⟨_,rfl,R,rs,aa,rfl,aG.of R3,Vq,br,λD1 H4 f4 s4 e4=>?_⟩;have J1:=iE (aa.map (·.1)) [];simp only [iX,av] at J1;refine⟨D1,rfl,⟨_,aG.of e4⟩,λD2 i5=>qm (aG.of e4) ∅ i5 λtz H5 s5 e5 p5=>?_⟩;have kp:Paired (λt (kv:aL×V)=>aR K H5 t [kV kv.1,kv.2]) tz ((hd aa).map λh=>((Sum.inr h:aL),V.bl true)):=cu p5 λ_ _ z=>z;refine⟨D2,tz,_,rfl,e5,kp,λd ub=>?_⟩;have QC:∀z,(bf (df ((hd aa).map λh=>((Sum.inr h:aL),V.bl true)) []) (Sum.inr z)).isSome=decide (z∈hd aa):=λz=>by
  rw [nE];by_cases c:z∈hd aa
  .rw [ax c,bN c];rfl
  rw [aw c,cV c];rfl
 generalize df ((hd aa).map λh=>((Sum.inr h:aL),V.bl true)) []=kE at QC;have s6:=(s4.trans s5).trans (af ub (.dK kE));have LJ:upd H5 d (.dK kE) d=some (.dK kE):=ae;generalize upd H5 d (.dK kE)=H6 at s6 LJ;have FQ:=s3.trans s6;refine⟨rM,λPl Xi=>?_⟩;have k7:=af Xi (.lst []);have XR:upd H6 Pl (.lst []) Pl=some (.lst []):=ae;have fPl:H Pl=none:=FQ.free Xi;have nRP:R≠Pl:=λz=>by rw [z,fPl] at hR;cases hR
 have Tn:d≠Pl:=λz=>by rw [z,Xi] at LJ;cases LJ
 generalize upd H6 Pl (.lst [])=H7 at k7 XR;have II:=FQ.trans k7;refine⟨_,rfl,_,rfl,_,rfl,L,_,rfl,II.seq hL,λC3 NY=>?_⟩;rw [u7];have k8:=af NY (.lst (Ph.map V.ref));have Om:upd H7 C3 (.lst (Ph.map V.ref)) C3=some (.lst (Ph.map V.ref)):=ae;have VY:C3≠Pl:=λz=>by rw [z,XR] at NY;cases NY
 generalize upd H7 C3 (.lst (Ph.map V.ref))=H8 at k8 Om;have s08:=II.trans k8;have XN:=k8 _ _ (k7 _ _ LJ);have lds:=a_ DP;refine⟨C3,rfl,⟨_,aG.of Om⟩,?_⟩
 let qF:pU:=λi σ H9=>∃(us:List V)(ts:List Tr)(y4:Option V),σ=[aM R,aM L,aM d,aM Pl,y4]/\aB H H9/\H9 C3=some (.lst (Ph.map V.ref))/\H9 d=some (.dK kE)/\H9 Pl=some (.lst us)/\xq K H9 us ts/\fP (mV aa) (N_.take i) []=some ts/\us.length<=i
 refine cR (xs:=Ph.map V.ref) qF ⟨[],[],none,rfl,s08,Om,XN,k8 _ _ XR,.nil,rfl,aD _⟩ ?_ ?_ ?_
 .rintro i σ H9 _ ⟨us,ts,y4,rfl,s9,LM,_⟩;exact aG.of LM
 .rintro i x σ H9 ex ⟨us,ts,y4,rfl,s9,LM,Og,LK,MX,C5,l9⟩
  ac_nf0
  rw [bo] at ex;obtain⟨a,ea,rfl⟩:=cg.mp ex;have li:=(bj.mp ea).1;obtain⟨de,Ul⟩:∃de,N_[i]?=some de:=⟨N_[i]'∅,b_ ∅⟩;obtain⟨a',Sb,va⟩:=Paired.at_ DP i de Ul;rw [ea] at Sb;cases Sb;have okd:=X4 de (b8 Ul);have okp:=B6 (λh e=>xr.mV h e) _ xr.nil C5;have M9:YF K H9 R d Pl rs aa us ts:=⟨s9 _ _ hR,cT.same s9,⟨kE,Og,QC⟩,LK,MX,∅,nRP,h8,br,λj cs h=>okp.top h⟩;refine goN ?_
  ac_nf
  have back:∀{HA:Hp},cY Pl H9 HA->aB H HA:=λsT b o hb=>sT b o (λz=>by rw [z,fPl] at hb;cases hb) (s9 b o hb);refine⟨_,rfl,_,rfl,_,rfl,_,rfl,R,d,Pl,a,rs,aa,us,ts,de,rfl,M9,va.same s9,okd,λHA sT e=>⟨false,rfl,?_⟩,λHA EL kc sT e eP' pl' l'=>⟨true,rfl,?_⟩⟩
  .refine g9 ?_;refine(q2 HA (back sT)).1 ?_;rw [C0 Ul C5 e];rfl
  refine du ?_;refine⟨EL,kc,_,rfl,back sT,sT _ _ VY LM,sT _ _ Tn Og,eP',pl',?_,∅⟩;rw [CZ Ul C5,e]
 rintro σ H9 ⟨us,ts,y4,rfl,s9,LM,Og,LK,MX,C5,l9⟩;rw [av,lds,cP] at C5;have lp:=a_ MX;have hq:=q2 H9 s9;rw [C5] at hq;refine⟨_,rfl,Pl,_,rfl,.inl (aG.of LK),rfl,decide (us.length=1),?_,?_⟩
 .show V.bl (decide (V.int (us.length:Int)=V.int 1))=V.bl (decide (us.length=1));by_cases h:us.length=1
  .rw [bN h,bN (by rw [h];rfl)]
  rw [cV h,cV (λy=>h (by injection y with y2;omega))]
 refine cE (λc=>?_) (λc=>?_)
 .have l1:=dA c
  match us,ts,l1,lp,MX,LK,hq with
  | [u],[t],_,_,.cons tv .nil,LK,hq =>
   have vk:lS [u] 0=some u:=cf (j:=0) rfl;cases t with
   | w z =>
    unfold gH at tv;subst tv;refine⟨_,rfl,Pl,_,_,_,rfl,rfl,aG.of LK,vk,.str z,"str","str",true,rfl,.str z,dY,true,rfl,?_⟩;refine du ?_;exact hq.1 rfl
   | n k cs =>
    have OJ:=tv;unfold gH at OJ;obtain⟨a,p,vs,rfl,ha,hp,_⟩:=OJ;refine⟨_,rfl,Pl,_,_,_,rfl,rfl,aG.of LK,vk,.ref a,"tuple","str",false,rfl,.tup ha,wW,false,rfl,?_⟩;refine g9 ?_;exact⟨_,rfl,Pl,_,_,_,rfl,rfl,aG.of LK,vk,hq.2 _ _ rfl tv⟩
 have n1:us.length≠1:=λh=>c (bN h);refine du ?_;refine hq.1 ?_
 match ts,lp with
 | [],_=>rfl
 | [t],lp=>exact absurd lp n1
 | a::_::_,_=>cases a <;> rfl
end
end gT
namespace L2
open PySem PySem.Spec PyProof.Rows
end L2
namespace gT
open PySem L2 M11
theorem vV:∀(ts:gW)(t:Tr),t∈ts.kr->sz t<=zP ts
 | .nil,t,h=>by cases h
 | .cons u r,t,h=>by
  unfold zP;rcases bY.mp h with e | e
  .rw [e];omega
  have:=vV r t e;omega
abbrev wB:Stmt:=top 57
section
def nK (K:a8) (n:Nat):Sp:=λvs H Q _=>∃(v:V)(t:Tr),vs=[v]/\gH K H t v/\dp t < n/\sz t<=100000/\∀(D:Addr)(as:List Addr)(H':Hp),H D=none->aB H H'->H' D=some (.lst (as.map V.ref))->Paired (λa d=>H' a=some (.tup (Ut d))) as (iU t)->Q (.ref D) H'
def nU:aI ["_law_tree_here","_law_deeds_here","_law_child"] ["_law_tree_here"] (ay wB):=iT rfl rfl rfl rfl nofun
theorem uP (F:iz K "_law_deeds" "_law_deeds" wB f fd)(T:Txt mg)(b1:Binds K fd ["_law_tree_here"] [])(m1:mg "_law_deeds"=some (.ref f)):∀n,bR P w K mg base fY n f fd ["_law_tree_here"] (nK K n)
 | 0=>⟨λvs H Q E ⟨_,_,e,_⟩=>by rw [e];rfl,λA outer s H args us vs Q E _ _ _ _ ⟨_,_,_,_,h,_⟩=>absurd h (rj _)⟩
 | n+1=>by
  have G:aE P w K mg base n "_law_deeds" ["_law_tree_here"] (nK K n):=⟨f,fd,uP F T b1 m1 n,b1,F.kp,m1⟩;refine F.ok nU (λvs H Q E h=>?_) (λeK A outer s H vs Q E hr h=>?_)
  .obtain⟨_,_,rfl,_⟩:=h;rfl
  obtain⟨v,t,rfl,ht,Rz,hsz,q⟩:=h;refine⟨_,aj (bU (dG (aF cK rfl T.EV ka (ab (pv 0) (ab (gi (v:=.ty "str") rfl T.str jx rfl) ah)))) (ak (aQ (bA (ab (bS (ab cD (ab (pv 0) ah))) ah)))) aS)
   (aj (aC (i:=1) nU.nd rfl (bB rfl) (bA ah))
   (aj (bK b9 rfl (fI (aP bq (pv 0) ar (λ_ _=>rfl))) (ao (i:=2) nU.nd rfl (bB rfl))
    (ak (aC (i:=1) nU.nd rfl (bB rfl) (aZ jP (pv 1) (bc G hr rfl (ab (pv 2) ah))))))
   (ak (aQ (aZ jP (pv 1) (bA (ab (bS (ab cD (ab (aP bq (pv 0) ar (λ_ _=>rfl)) ah))) ah))))))),?_⟩
  nofun
  cases t with
  | w z =>
   unfold gH at ht;subst ht;refine⟨_,rfl,.str z,"str","str",true,rfl,.str z,dY,true,rfl,?_⟩;refine g9 ?_;refine⟨_,rfl,oK,λu hu=>⟨xE,λD hD=>?_⟩⟩;have k1:=af hu (.tup [V.str "step",V.str z]);have e1:upd H u (.tup [V.str "step",V.str z]) u=some (.tup [.str "step",.str z]):=ae;generalize upd H u (.tup [V.str "step",V.str z])=H1 at k1 e1 hD;refine q D [u] _ (k1.free hD) (k1.trans (af hD _)) ae ?_;unfold iU;exact .cons ((af hD _) _ _ e1) .nil
  | n k cs =>
   have V3:=oG (.n k cs);unfold gH at ht;obtain⟨a,p,us,rfl,ha,hp,Hz⟩:=ht;have Zi:=iq.paired cs Hz;have lcs:=a_ Zi;have uW:1+Kw cs < n+1:=by unfold dp at Rz;exact Rz
   have hs1:1+zP cs<=100000:=by unfold sz at hsz;exact hsz
   refine⟨_,rfl,.ref a,"tuple","str",false,rfl,.tup ha,wW,false,rfl,?_⟩;refine du ?_;refine⟨rM,λL hL=>?_⟩;have k1:=af hL (.lst []);have e1:upd H L (.lst []) L=some (.lst []):=ae;generalize upd H L (.lst [])=H1 at k1 e1;refine⟨_,rfl,a,_,_,_,rfl,rfl,k1.tup ha,rfl,p,rfl,⟨_,k1.tup hp⟩,?_⟩;refine oz (xs:=us) (λi σ H5=>∃(D:Addr)(as:List Addr)(y2:Option V),σ=[aM a,aM D,y2]/\aB H H5/\H D=none/\H5 D=some (.lst (as.map V.ref))/\Paired (λa d=>H5 a=some (.tup (Ut d))) as ((cs.kr.take i).flatMap iU)) ⟨L,[],none,rfl,k1,hL,e1,.nil⟩ ?_ ?_ ?_
   .rintro i σ H5 _ ⟨D,as,y2,rfl,s5,_⟩;exact s5.tup hp
   .intro i x σ H5 ex lD
    ac_nf0
    obtain⟨D,as,y2,rfl,s5,fD,eD,pd⟩:=lD;have li:=(bj.mp ex).1;obtain⟨tc,N9⟩:∃tc,cs.kr[i]?=some tc:=⟨cs.kr[i]'∅,b_ ∅⟩;obtain⟨x',RT,tv⟩:=Paired.at_ Zi i tc N9;rw [ex] at RT;cases RT;have jU:=b8 N9;have d1:=A_ cs tc jU;have z1:=vV cs tc jU;have tot:((cs.kr.take (i+1)).flatMap iU).length<=100000:=by
     have h1:((cs.kr.take (i+1)).flatMap iU).length<=(cs.kr.flatMap iU).length:=by
      conv=>rhs;rw [<-vM (i+1) cs.kr,qa,bp]
      omega
     rw [<-tJ,oF] at h1;omega
    refine goN ?_
    ac_nf
    refine⟨_,rfl,_,rfl,x,tc,rfl,gH.keep (λ_ _ z=>s5.tup z) tc tv,∅,∅,λD2 as2 H6 f6 s6 e6 p6=>?_⟩;have Uq:=s6 _ _ eD;have ES:=a_ pd;have l26:=a_ p6;have HR:(cs.kr.take (i+1)).flatMap iU=(cs.kr.take i).flatMap iU++iU tc:=by
     rw [cQ,N9,qa];simp
    rw [HR,bp] at tot;refine⟨D,D2,_,_,rfl,rfl,Uq,e6,fits (by rw [av,av];omega),λD3 yC=>?_⟩;rw [<-bG];have k7:=af yC (.lst ((as++as2).map V.ref));refine⟨D3,as++as2,_,rfl,(s5.trans s6).trans k7,(s5.trans s6).free yC,ae,?_⟩;rw [HR];exact cv (Paired.eJ pd λ_ _ z=>k7 _ _ (s6 _ _ z)) (Paired.eJ p6 λ_ _ z=>k7 _ _ z)
   rintro σ H5 ⟨D,as,y2,rfl,s5,fD,eD,pd⟩;rw [show us.length=cs.kr.length from lcs,cP,<-tJ] at pd;have ES:=a_ pd;have Tv:=oF cs;refine⟨_,rfl,_,rfl,a,_,_,_,rfl,rfl,s5.tup ha,rfl,oK,λu hu=>⟨xE,λL2 DU=>?_⟩⟩;have k6:=(af hu (.tup [V.str "make",V.int (k:Int)])).trans (af DU (.lst [V.ref u]));have vu:upd (upd H5 u (.tup [V.str "make",V.int (k:Int)])) L2 (.lst [V.ref u]) u=some (.tup [.str "make",.int (k:Int)]):=(af DU _) _ _ ae;have e6:upd (upd H5 u (.tup [V.str "make",V.int (k:Int)])) L2 (.lst [V.ref u]) L2=some (.lst [V.ref u]):=ae;generalize upd (upd H5 u (.tup [V.str "make",V.int (k:Int)])) L2 (.lst [V.ref u])=H6 at k6 vu e6;refine⟨D,L2,_,_,rfl,rfl,k6 _ _ eD,e6,fits (by rw [av];show _+1<=1000000;omega),λD3 yC=>?_⟩;have k7:=af yC (.lst (as.map V.ref++[V.ref u]));refine q D3 (as++[u]) _ ((s5.trans k6).free yC) ((s5.trans k6).trans k7) (by rw [ae,bG];rfl) ?_;rw [Cy];exact cv (Paired.eJ pd λ_ _ z=>k7 _ _ (k6 _ _ z)) (.cons (k7 _ _ vu) .nil)
end
abbrev wm:Stmt:=top 55
def sB:Nat->Nat
 | 0=>1
 | n+1=>1+3 * sB n
def MJ:∀n,1<=sB n
 | 0=>aD _
 | n+1=>by show 1<=1+3 * sB n;omega
def K5:∀{m n:Nat},m<=n->sB m<=sB n:=by
 intro m n h
 induction h with
 | refl=>exact aD _
 | step _ ih=>exact dI ih (by show _<=1+3 * sB _;omega)
structure jh (aa:List au) (m:Nat)(t:Tr)(z:Str):Prop where
 is:Is aa t z
 size:sz t<=sB m
 deep:dp t<=m
def jh.up {aa:List au}{m n:Nat}{t:Tr}{z:Str}(h:jh aa m t z)(l:m<=n):jh aa n t z:=⟨h.is,dI h.size (K5 l),dI h.deep l⟩
def jh.word {aa:List au}{m:Nat}{z:Str}(h:z∉hd aa):jh aa m (.w z) z:=⟨by unfold Is;exact⟨rfl,h⟩,by unfold sz;exact MJ m,by unfold dp;exact fj _⟩
theorem Hj {aa:List au}{m:Nat}:∀{ts:List Tr}{zs:List Str},Paired (λt z=>jh aa m t z) ts zs->xB aa (gW.n6 ts) zs/\zP (gW.n6 ts)<=zs.length * sB m/\Kw (gW.n6 ts)<=m
 | _,_,.nil=>⟨by unfold gW.n6 xB;rfl,by unfold gW.n6 zP;simp,by unfold gW.n6 Kw;exact fj _⟩
 | _,_,.cons a b=>by
  obtain⟨x,y,z⟩:=Hj b;have h1:=a.size;have h2:=a.deep;refine⟨by unfold gW.n6 xB;exact⟨_,_,rfl,a.is,x⟩,?_,?_⟩
  .unfold gW.n6 zP;rw [dS,Nat.succ_mul];omega
  unfold gW.n6 Kw;omega
def jh.node {aa:List au}{m k:Nat}{ts:List Tr}{ru:au}(e:aa[k]?=some ru)(h3:ru.2.length<=3)(p:Paired (λt z=>jh aa m t z) ts ru.2):jh aa (m+1) (.n k (gW.n6 ts)) ru.1:=by
 obtain⟨x,y,z⟩:=Hj p;refine⟨by unfold Is;exact⟨ru.2,e,x⟩,?_,by unfold dp;omega⟩;unfold sz;show 1+_<=1+3 * sB m;have:ru.2.length * sB m<=3 * sB m:=Nat.mul_le_mul_right _ h3;omega
section
def Ey {H:Hp}{p D d:Addr}{zs:List Str}{kvs:List (aL×V)}{σ:St}{js:List (Nat×Str)}{Qp:Hp->Prop}{F:Tr->Str->Prop}(hσ:dO ["_law_part"] js σ=[none,aM d])(hp:aR K H p (zs.map V.str))(hz:zs.length<=1000)
  (hd:H d=some (.dK kvs))(ha:∀z∈zs,∃t,gH K H t ((bf kvs (Sum.inr z)).getD (.str z))/\F t z)(hD:H D=none)(q:∀ys ts H2,Paired (λv t=>gH K H2 t v) ys ts->Paired F ts zs->aB H H2->H2 D=some (.lst ys)->Qp H2) :
  ∃W:Nat->Nat->List V->St->Hp->Prop,(∃m,W 0 m [] (dO ["_law_part"] js σ) (upd H D (.lst []))) /\
 ∀i m ys σ' H,W i m ys σ' H->((oJ K p).stop i H/\Qp H)\/((oJ K p).go i H/\∃m',m' < m/\∀x H',(oJ K p).mE i H x H'->dM 0 x σ' H' λσ2 H2=>hX σ2 H2 λb H3 =>
  if b=true then Fi (gE 1) (gE 0) (gE 0) σ2 H3 λy H4=>H4 D=some (.lst ys)/\ys.length < sizeLine/\W (i+1) m' (ys++[y]) σ2 (upd H4 D (.lst (ys++[y]))) else W (i+1) m' ys σ2 H3):=by
 refine gB (xs:=zs.map V.str) (λi ys σ2 H2=>(∃ts,Paired (λv t=>gH K H t v) ys ts/\Paired F ts (zs.take i))/\(∃y0,σ2=[y0,aM d])/\aB H H2/\H2 D=some (.lst ys))
  ⟨⟨[],.nil,.nil⟩,⟨none,hσ⟩,af hD _,ae⟩ (λi ys σ2 H2 _ h=>h.2.2.1.tup hp) (λi x ys σ2 H2 ex h=>?_) (λys σ2 H2 h=>?_)
 .obtain⟨⟨ts,p1,p2⟩,⟨y0,rfl⟩,sm,hd2⟩:=h;rw [bo] at ex;obtain⟨z,ez,rfl⟩:=cg.mp ex;have li:=(bj.mp ez).1;obtain⟨t,tv,ft⟩:=ha z (b8 ez);have l1:=a_ p1;have l2:=a_ p2;rw [dD] at l2;refine goN (yE ?_);refine⟨_,rfl,d,rfl,.inl ⟨_,Rd.of (sm _ _ hd)⟩,_,rfl,_,rfl,_,bX.k (k:=Sum.inr z) (sm _ _ hd),hd2,bF ∅,⟨ts++[t],cv p1 (.cons tv .nil),?_⟩,⟨_,rfl⟩,?_,ae⟩
  .rw [cQ,ez];exact cv p2 (.cons ft .nil)
  intro b o hb;rw [ai (λz=>by rw [z,hD] at hb;cases hb)];exact sm b o hb
 obtain⟨⟨ts,p1,p2⟩,_,sm,hd2⟩:=h;rw [av,cP] at p2;exact q ys ts H2 (Paired.eJ p1 λ_ t z=>gH.keep (λ_ _ y=>sm.tup y) t z) p2 sm hd2
structure Bp (K:a8)(H:Hp)(L:Addr)(aa:List au) (es:List Str)(kvs:List (aL×V)):Prop where
 hL:H L=some (.dK kvs)
 ky:kvs.map (·.1)=es.map Sum.inr
 tr:∀z v,bf kvs (Sum.inr z)=some v->∃t,gH K H t v/\jh aa es.length t z
 nd:es.Nodup
 sub:∀z∈es,z∈hm aa
def Bp.same {H H':Hp}{L:Addr}{aa:List au}{es:List Str}{kvs:List (aL×V)}(h:Bp K H L aa es kvs)(s:aB H H'):Bp K H' L aa es kvs :=
 ⟨s _ _ h.hL,h.ky,λz v e=>let ⟨t,a,b⟩:=h.tr z v e;⟨t,gH.keep (λ_ _ y=>s.tup y) t a,b⟩,h.nd,h.sub⟩
def Bp.at_ {H:Hp}{L:Addr}{aa:List au}{es:List Str}{kvs:List (aL×V)}(h:Bp K H L aa es kvs)(z:Str):(bf kvs (Sum.inr z)).isSome=decide (z∈es):=by
 by_cases c:z∈es
 .rw [bN c];exact(dQ kvs (Sum.inr z)).mpr (by rw [h.ky];exact cN.mpr c)
 rw [cV c];cases e:(bf kvs (Sum.inr z)).isSome with
 | false=>rfl
 | true=>exact absurd (cN.mp (by rw [<-h.ky];exact(dQ kvs (Sum.inr z)).mp e)) c
def Bp.get {H:Hp}{L:Addr}{aa:List au}{es:List Str}{kvs:List (aL×V)}(h:Bp K H L aa es kvs){z:Str}(c:z∈es):∃v t,bf kvs (Sum.inr z)=some v/\gH K H t v/\jh aa es.length t z:=by
 have:=h.at_ z;rw [bN c] at this;obtain⟨v,e⟩:=lX.mp this;obtain⟨t,a,b⟩:=h.tr z v e;exact⟨v,t,e,a,b⟩
def xS (K:a8):Sp:=λvs H Q _=>∃(R:Addr)(rs:List Addr)(aa:List au) (eX:List Str),vs=[.ref R]/\aG K H R (rs.map V.ref)/\bJ K H rs aa/\aa.length<=8/\(∀ru∈aa,ru.2.length<=3)/\eX.length<=3/\(∀z∈hm aa,z∈eX) /\
 ∀(L:Addr)(kvs:List (aL×V))(H':Hp),H L=none->aB H H'->Bp K H' L aa (cH true aa) kvs->(cH true aa).length<=3->Q (.ref L) H'
abbrev NLs:List Str:=["_law_rules","_law_head","_law_parts","_law_heads","_law_least_here","_law_again","_law_number"]
def iK:aI NLs ["_law_rules"] (ay wm):=iT rfl rfl rfl rfl nofun
def Dp (F:iz K "_law_least" "_law_least" wm f fd)(T:Txt mg):bR P w K mg base fY 1 f fd ["_law_rules"] (xS K):=by
 refine F.ok iK (λvs H Q E h=>?_) (λeK A outer s H vs Q E hr h=>?_)
 .obtain⟨R,rs,aa,eX,rfl,_⟩:=h;rfl
 obtain⟨R,rs,aa,eX,rfl,hR,cT,br,h3,TM,NC,q⟩:=h;have hu:=fX hr;refine⟨_,aj (aC (i:=3) iK.nd rfl (Or.inr rfl) (ba ["_law_head","_law_parts"] [] rfl (aX (pv 0)) (a9 rfl rfl) nofun rfl nofun
   (λ_ _ _ _ _=>ff (n:=2) K rfl (aA (ao (i:=0) (show (["_law_head","_law_parts"]:List Str).Nodup by decide +kernel) rfl (bB rfl)) (aA (ao (i:=1) (show (["_law_head","_law_parts"]:List Str).Nodup by decide +kernel) rfl (bB rfl)) bV))) (λ_ _ _ _ _=>bQ)
   (λ_ _ _ _ _=>pv 0)))
  (aj (aC (i:=4) iK.nd rfl (Or.inr rfl) gQ)
  (aj (bK b9 rfl (aX (pv 0)) (ao (i:=5) iK.nd rfl (bB rfl))
   (ak (bK b9 rfl (gy rfl T.C8 (ab (aF aK rfl T.len dJ (ab (pv 0) ah)) ah)) (ao (i:=6) iK.nd rfl (bB rfl))
    (aj (MV (aP bT (pv 0) (pv 6) (λ_ _=>rfl)) (ff (n:=2) K rfl (aA (ao (i:=1) iK.nd rfl (bB rfl)) (aA (ao (i:=2) iK.nd rfl (bB rfl)) bV))))
    (ak (bU (PW.pt (jb (dH (dX hu (pv 1) (pv 4))) (iA (dG (aF (gC rfl) rfl T.all boot_all (ab
      (ba ["_law_part"] [(3,"_law_heads"),(4,"_law_least_here")] rfl (fI (pv 2)) (a9 rfl rfl) nofun rfl nofun
       (λ_ _ _ _ _=>ao (i:=0) (show (["_law_part","_law_heads","_law_least_here"]:List Str).Nodup by decide +kernel) rfl (bB rfl)) (λ_ _ _ _ _=>bQ)
       (λ_ _ _ _ _=>K_ (sG (jc hu (pv 0) (pv 2))) (jM (fg (jd K) (pv 0) (pv 1) rfl)))) ah))))))
     (ak (iC hu (pv 4) (pv 1) (bS (ab (pv 6) (ab (aV eY rfl T.tup qc (ab (ba ["_law_part"] [(4,"_law_least_here")] rfl (fI (pv 2)) (a9 rfl rfl) nofun rfl nofun
      (λ_ _ _ _ _=>ao (i:=0) (show (["_law_part","_law_least_here"]:List Str).Nodup by decide +kernel) rfl (bB rfl)) (λ_ _ _ _ _=>bQ) (λ_ _ _ _ _=>ye hu (pv 1) (pv 0) (pv 0) ⟨rfl,rfl,rfl,rfl⟩)) ah)) ah))) rfl)) aS))))))
  (ak (aQ (pv 4))))),?_⟩
 nofun
 have ll:=a_ cT;refine⟨_,rfl,R,rfl,⟨_,hR⟩,λD hD=>jV hR cT ∅ hD λH1 s1 eD=>?_⟩;refine goN ?_
 ac_rfl
 refine λL hL=>?_;have s2:=s1.trans (af hL (.dK []));have HZ:=af hL (.dK []) _ _ eD;have nL:D≠L:=λz=>by rw [z,hL] at eD;cases eD
 have fL:H L=none:=s1.free hL;have e2:upd H1 L (.dK []) L=some (.dK []):=ae;generalize upd H1 L (.dK [])=H2 at s2 HZ e2;refine goN ?_
 ac_rfl
 have L2:Bp K H2 L aa [] []:=⟨e2,rfl,(λz v e=>by cases e),kK,(λz h=>by cases h)⟩;refine⟨_,rfl,R,rfl,⟨_,s2.seq hR⟩,cR (xs:=rs.map V.ref) (λi σ H3=>∃(es:List Str)(kvs:List (aL×V))(y1 y2 y5 y6:Option V),σ=[aM R,y1,y2,aM D,aM L,y5,y6]/\aB H H3/\H3 D=some (.lst ((hm aa).map V.str))/\Bp K H3 L aa es kvs/\es=passes (λe=>fV true (hm aa) e aa) i []) ⟨[],[],_,_,_,_,rfl,s2,HZ,L2,rfl⟩ ?_ ?_ ?_⟩
 .rintro i σ H3 _ ⟨es,kvs,y1,y2,y5,y6,rfl,s3,_⟩;exact s3.seq hR
 .intro i x σ H3 ex lD
  ac_nf0
  obtain⟨es,kvs,y1,y2,y5,y6,rfl,s3,Ja,L3,he⟩:=lD;refine goN ?_
  ac_nf
  refine⟨_,rfl,R,_,rfl,.inl (s3.seq hR),((rs.map V.ref).length:Int),rfl,by rw [av];omega,by rw [av];omega,?_⟩;rw [show (((rs.map V.ref).length:Nat):Int).toNat=aa.length by rw [av];omega];refine g_ (n:=aa.length) (λj σ H4=>∃(ik:List Str)(kvs:List (aL×V))(y1 y2 y6:Option V),σ=[aM R,y1,y2,aM D,aM L,some x,y6]/\aB H H4/\H4 D=some (.lst ((hm aa).map V.str))/\Bp K H4 L aa ik kvs/\ik=fV true (hm aa) es (aa.take j)) ⟨es,kvs,_,_,_,rfl,s3,Ja,L3,rfl⟩ ?_ ?_
  .intro j σ H4 lj lD
   ac_nf0
   obtain⟨ik,kvs,y1,y2,y6,rfl,s4,Ej,L4,AU⟩:=lD;have e1:aa[j]?=some aa[j]:=b_ lj;generalize iS:aa[j]=ru at e1;have Ny:=h3 ru (b8 e1);obtain⟨r,er,p,v1,v2⟩:=Paired.at_ cT j ru e1;have Bi:lS (rs.map V.ref) (0+(j:Int))=some (.ref r):=by
    rw [jZ];exact cf (by rw [bo,er];rfl)
   have l3:ik.length<=3:=dI (iP _ _ L4.nd λz hz=>NC z (L4.sub z hz)) TM;have lkv:kvs.length=ik.length:=by
    have:=congrArg List.length L4.ky;rw [av,av] at this;exact this
   have pe:fV true (hm aa) es (aa.take (j+1))=dF true (hm aa) ik ru:=by
    rw [AU,cQ,e1];unfold fV;rw [vB];rfl
   refine goN ?_
   ac_rfl
   refine⟨_,rfl,_,rfl,R,_,_,_,rfl,rfl,s4.seq hR,Bi,r,_,rfl,s4.tup v1,rfl,_,_,rfl,_,_,rfl,rfl,?_⟩;refine⟨_,rfl,_,rfl,L,_,rfl,bX.k (k:=Sum.inr ru.1) L4.hL,_,rfl,?_⟩;rw [L4.at_ ru.1];show if (!decide (ru.1∈ik))=true then _ else _;refine cE (λc2=>?_) (λc2=>?_)
   .have Zt:ru.1∉ik:=λz=>by rw [bN z] at c2;cases c2
    refine⟨_,rfl,p,rfl,⟨_,s4.tup v2⟩,λD2 i5=>lI (zs:=ru.2) [aM D,aM L] (λz=>decide (z∈ik) || (true && !decide (z∈hm aa))) rfl (s4.tup v2) ∅ i5 (λz _ H5 Qy s5 hq=>?_) λH5 s5 Pa=>?_⟩
    .refine⟨_,rfl,_,rfl,L,_,rfl,bX.k (k:=Sum.inr z) (s5 _ _ L4.hL),?_⟩;refine⟨_,rfl,?_⟩;rw [L4.at_ z];refine cE (λc=>?_) (λc=>?_)
     .rw [c] at hq;exact hq
     have c':decide (z∈ik)=false:=by simpa using c
     rw [c',Bool.false_or,j5] at hq;refine⟨_,rfl,_,rfl,D,_,rfl,.inl (aG.of (s5 _ _ Ej)),rfl,di _,?_⟩;rw [gk];exact hq
    refine⟨D2,_,rfl,aG.of Pa,?_⟩;rw [all_map];have ua:=s4.trans s5;have L5:=L4.same s5;refine⟨_,rfl,?_⟩;refine cE (λc=>?_) (λc=>?_)
    .have kid:∀z∈ru.2,∃t,gH K H5 t ((bf kvs (Sum.inr z)).getD (.str z))/\jh aa ik.length t z:=λz hz=>by
      have cz:=gr.mp c z hz;by_cases m:z∈ik
      .obtain⟨v,t,e,a,b⟩:=L5.get m;exact⟨t,by rw [e];exact a,b⟩
      rw [cV m,Bool.false_or,j5] at cz;have nh:z∉hm aa:=λy=>by rw [bN y] at cz;cases cz
      have ev:bf kvs (Sum.inr z)=none:=by
       cases e:bf kvs (Sum.inr z) with
       | none=>rfl
       | some v =>
        have:=L5.at_ z;rw [e,cV m] at this;cases this
      exact⟨.w z,by rw [ev];unfold gH;rfl,jh.word λy=>nh (me.mpr y)⟩
     refine⟨_,rfl,_,rfl,p,rfl,⟨_,ua.tup v2⟩,λD3 yC=>Ey (F:=λt z=>jh aa ik.length t z) (zs:=ru.2) rfl (ua.tup v2) ∅ L5.hL kid yC λys ts H6 p1 p2 s6 e6=>?_⟩;refine⟨D3,ys,rfl,.inl ⟨aG.of e6,λt2 N2=>⟨oK,λui D_=>?_⟩⟩⟩;have k7:=(af N2 (.tup ys)).trans (af D_ (.tup [.int (0+(j:Int)),.ref t2]));have vt:aR K (upd (upd H6 t2 (.tup ys)) ui (.tup [.int (0+(j:Int)),.ref t2])) t2 ys:=(af D_ _).tup (aR.of ae);have vn:aR K (upd (upd H6 t2 (.tup ys)) ui (.tup [.int (0+(j:Int)),.ref t2])) ui [.int (j:Int),.ref t2]:=by
      have:aR K (upd (upd H6 t2 (.tup ys)) ui (.tup [.int (0+(j:Int)),.ref t2])) ui [.int (0+(j:Int)),.ref t2]:=aR.of ae;rw [jZ] at this ⊢;exact this
     generalize upd (upd H6 t2 (.tup ys)) ui (.tup [.int (0+(j:Int)),.ref t2])=H7 at k7 vt vn;have uJ:=s6.trans k7;have L7:=L5.same uJ;refine⟨_,rfl,_,rfl,L,_,rfl,.inl ⟨kvs,Sum.inr ru.1,L7.hL,rfl,bF ∅,rfl⟩,?_⟩;have kt:∀a xs,aR K H7 a xs->aR K (upd H7 L (.dK (bL kvs (Sum.inr ru.1) (.ref ui)))) a xs:=λa xs z=>by
      rcases z with (z | ⟨u,z⟩) | z
      .exact .inl (.inl (by rw [ai (λy=>by rw [y,L7.hL] at z;cases z)];exact z))
      .exact .inl (.inr ⟨u,by rw [ai (λy=>by rw [y,L7.hL] at z;cases z)];exact z⟩)
      exact .inr z
     refine⟨ik++[ru.1],bL kvs (Sum.inr ru.1) (.ref ui),_,_,_,rfl,λb o hb=>?_,?_,⟨ae,?_,λz v e=>?_,?_,λz hz=>?_⟩,?_⟩
     .rw [ai (λz=>by rw [z,fL] at hb;cases hb)];exact(ua.trans uJ) b o hb
     .rw [ai nL];exact uJ _ _ (s5 _ _ Ej)
     .rw [iB (by rw [L4.ky];exact λz=>Zt (cN.mp z)),L4.ky,bG];rfl
     .rw [rN] at e;rw [bp,d_];by_cases cz:(Sum.inr z:aL)=Sum.inr ru.1
      .rw [ax cz] at e;cases e;have ez:z=ru.1:=by injection cz
       refine⟨.n j (gW.n6 ts),?_,?_⟩
       .unfold gH;exact⟨ui,t2,ys,rfl,kt _ _ vn,kt _ _ vt,iq.Tj (Paired.eJ p1 λ_ t y=>gH.keep (λ_ _ x=>kt _ _ (k7.tup x)) t y)⟩
       rw [ez];exact jh.node e1 Ny p2
      rw [aw cz] at e;obtain⟨t,a,b⟩:=L7.tr z v e;exact⟨t,gH.keep kt t a,b.up (i7 _)⟩
     .exact j9.mpr ⟨L4.nd,by simp,λa ha b hb e=>Zt (by rw [<-bC.mp hb,<-e];exact ha)⟩
     .rcases cq.mp hz with h | h
      .exact L4.sub z h
      rw [bC.mp h];exact cy.mpr ⟨ru,b8 e1,rfl⟩
     rw [pe];unfold dF;rw [c,j5,ax c2]
    refine⟨ik,kvs,_,_,_,rfl,ua,s5 _ _ Ej,L5,?_⟩;rw [pe];unfold dF;rw [aw (λz=>c (fk.mp z).1)]
   refine⟨ik,kvs,_,_,_,rfl,s4,Ej,L4,?_⟩;rw [pe];unfold dF;rw [aw (λz=>c2 (fk.mp z).2)]
  rintro σ H4 ⟨ik,kvs,y1,y2,y6,rfl,s4,Ej,L4,AU⟩;rw [cP] at AU;exact⟨ik,kvs,_,_,_,_,rfl,s4,Ej,L4,by rw [AU,he];rfl⟩
 rintro σ H3 ⟨es,kvs,y1,y2,y5,y6,rfl,s3,Ja,L3,he⟩;rw [av,ll] at he;refine⟨_,rfl,?_⟩;have e:cH true aa=es:=he.symm;rw [<-e] at L3;exact q L kvs H3 fL s3 L3 (dI (iP _ _ L3.nd λz hz=>NC z (L3.sub z hz)) TM)
end
end gT
namespace L2
open PySem
def cY.Tb {K:a8}{C:Addr}{H H':Hp}{xs:List V}(s:cY C H H')(h:H C=some (.lst xs)):∀a ys,aR K H a ys->aR K H' a ys:=λa ys z=>by
 rcases z with (z | ⟨u,z⟩) | z
 .exact .inl (.inl (s _ _ (λy=>by rw [y,h] at z;cases z) z))
 .exact .inl (.inr ⟨u,s _ _ (λy=>by rw [y,h] at z;cases z) z⟩)
 exact .inr z
end L2
namespace gT
open PySem L2 M11
abbrev zY:Stmt:=top 56
abbrev wt:Stmt:=top 58
def lC (ks:List Nat):List V:=ks.map λk:Nat=>V.int (k:Int)
def Yt {ks:List Nat}(h:ks≠[]) (n:Int):(0:Int) < ((lC ks).length:Int)/\∃k∈ks,lS (lC ks) (n % ((lC ks).length:Int))=some (.int (k:Int)):=by
 have l0:0 < ks.length:=List.length_pos_iff.mpr h;have le:(lC ks).length=ks.length:=by unfold lC;rw [av]
 have hp:(0:Int) < (ks.length:Int):=by omega
 have lt:(n % (ks.length:Int)).toNat < ks.length:=by
  have:=Int.emod_lt_of_pos n hp;have:=Int.emod_nonneg n (show (ks.length:Int)≠0 by omega);omega
 have eN:(((n % (ks.length:Int)).toNat:Nat):Int)=n % (ks.length:Int):=by
  have:=Int.emod_nonneg n (show (ks.length:Int)≠0 by omega);omega
 rw [le];refine⟨hp,ks[(n % (ks.length:Int)).toNat],pY lt,?_⟩;have:=cf (xs:=lC ks) (j:=(n % (ks.length:Int)).toNat) (v:=.int ((ks[(n % (ks.length:Int)).toNat]:Nat):Int)) (by unfold lC;rw [bo,b_ lt];rfl);rw [eN] at this;exact this
def Bp.xZ {K:a8}{H H':Hp}{L C:Addr}{aa:List au}{es:List Str}{kvs:List (aL×V)}{xs:List V}(l:Bp K H L aa es kvs)(s:cY C H H')(h:H C=some (.lst xs)):Bp K H' L aa es kvs :=
 ⟨s _ _ (λy=>by have:=l.hL;rw [y,h] at this;cases this) l.hL,l.ky,λz v e=>let ⟨t,a,b⟩:=l.tr z v e;⟨t,gH.keep (s.Tb h) t a,b⟩,l.nd,l.sub⟩
section
structure Bl (K:a8)(H:Hp)(R L C:Addr)(rs:List Addr)(aa:List au) (es:List Str)(kvs:List (aL×V))(cs:List Int):Prop where
 hR:H R=some (.lst (rs.map V.ref))
 cT:bJ K H rs aa
 len:aa.length<=8
 h3:∀ru∈aa,ru.2.length<=3
 ls:Bp K H L aa es kvs
 all:∀z∈hm aa,z∈es
 QL:es.length<=3
 hC:H C=some (.lst (cs.map V.int))
 A4:cs.length<=1000
 nR:R≠C
def Bl.go {H H':Hp}{R L C:Addr}{rs:List Addr}{aa:List au}{es:List Str}{kvs:List (aL×V)}{cs Jd:List Int}(h:Bl K H R L C rs aa es kvs cs)(s:cY C H H')(e:H' C=some (.lst (Jd.map V.int)))(l:Jd.length<=cs.length):Bl K H' R L C rs aa es kvs Jd :=
 ⟨s _ _ h.nR h.hR,h.cT.keep (s.Tb h.hC),h.len,h.h3,h.ls.xZ s h.hC,h.all,h.QL,e,dI l h.A4,h.nR⟩
def vY (K:a8) (m:Nat):Sp:=λvs H Q _=>∃(R L C:Addr)(rs:List Addr)(aa:List au) (es:List Str)(kvs:List (aL×V))(cs:List Int)(x:Str) (n:Nat),vs=[.ref R,.ref L,.str x,.ref C,.int (n:Int)]/\m=n+1/\Bl K H R L C rs aa es kvs cs/\x∈es /\
 ∀(v:V)(t:Tr)(Jd:List Int)(H':Hp),cY C H H'->H' C=some (.lst (Jd.map V.int))->Jd.length<=cs.length->gH K H' t v->jh aa (3+n) t x->Q v H'
abbrev NTl:List Str:=["_law_rules","_law_least_here","_law_name","_law_cells","_law_deep","_law_numbers","_law_number","_law_children","_law_part"]
def jI:aI NTl ["_law_rules","_law_least_here","_law_name","_law_cells","_law_deep"] (ay zY):=iT rfl rfl rfl rfl nofun
theorem yj (F:iz K "_law_tree" "_law_tree" zY f fd)(T:Txt mg)(b1:Binds K fd ["_law_rules","_law_least_here","_law_name","_law_cells","_law_deep"] [])(m1:mg "_law_tree"=some (.ref f)):∀n,bR P w K mg base fY n f fd ["_law_rules","_law_least_here","_law_name","_law_cells","_law_deep"] (vY K n)
 | 0=>⟨λvs H Q E ⟨_,_,_,_,_,_,_,_,_,_,e,_⟩=>by rw [e];rfl,λA outer s H args us vs Q E _ _ _ _ ⟨_,_,_,_,_,_,_,_,_,_,_,h,_⟩=>by cases h⟩
 | m+1=>by
  have G:aE P w K mg base m "_law_tree" ["_law_rules","_law_least_here","_law_name","_law_cells","_law_deep"] (vY K m):=⟨f,fd,yj F T b1 m1 m,b1,F.kp,m1⟩;refine F.ok jI (λvs H Q E h=>?_) (λeK A outer s H vs Q E hr h=>?_)
  .obtain⟨_,_,_,_,_,_,_,_,_,_,rfl,_⟩:=h;rfl
  obtain⟨R,L,C,rs,aa,es,kvs,cs,x,n,rfl,em,I0,hx,q⟩:=h;obtain rfl:m=n:=Nat.succ.inj em;have hu:=fX hr;have TF:=Nat.lt_of_succ_lt hu;refine⟨_,aj (aC (i:=5) jI.nd rfl (bB rfl) (bA ah))
   (aj (bK b9 rfl (gy rfl T.C8 (ab (aF aK rfl T.len dJ (ab (pv 0) ah)) ah)) (ao (i:=6) jI.nd rfl (bB rfl))
    (ak (bU (bw iO (aP bq (aP bT (pv 0) (pv 6) (λ_ _=>rfl)) ar (λ_ _=>rfl)) (pv 2) (bW _))
     (ak (cC (gR f_ gK gL bM (pv 5) (ab (pv 6) ah)))) aS)))
   (aj (bU (PW.pt (kZ (bw (Dj TF) (pv 3) (bA ah) (bW _)) (jK (bw iO (pv 4) ar (bW _))))) (ak (aQ (eI hu (pv 1) (pv 2) (λ_ _=>rfl)))) aS)
   (aj (aC (i:=6) jI.nd rfl (bB rfl) (aP bT (pv 5) (aZ fK (Gi f_ PySem.F.slot_list_pop PySem.F.type_list_pop G4 (pv 3)) (aF aK rfl T.len dJ (ab (pv 5) ah))) (λ_ _=>rfl)))
   (aj (aC (i:=7) jI.nd rfl (bB rfl) (bA ah))
   (aj (bK b9 rfl (fI (aP bq (aP bT (pv 0) (pv 6) (λ_ _=>rfl)) ar (λ_ _=>rfl))) (ao (i:=8) jI.nd rfl (bB rfl))
    (aj (qL (bU (dH (jc hu (pv 8) (pv 1))) (ak (aC (i:=8) jI.nd rfl (bB rfl) (bc G hr rfl (ab (pv 0) (ab (pv 1) (ab (pv 8) (ab (pv 3) (ab (aZ Ap (pv 4) ar) ah)))))))) aS))
    (ak (cC (gR f_ gK gL bM (pv 7) (ab (pv 8) ah))))))
   (ak (aQ (bS (ab (pv 6) (ab (aV eY rfl T.tup qc (ab (pv 7) ah)) ah)))))))))),?_⟩
  nofun
  have ll:=a_ I0.cT;have len:=I0.len;have fw:=I0.A4;refine⟨rM,λN hN=>?_⟩;have k1:=af hN (.lst []);have e1:upd H N (.lst []) N=some (.lst []):=ae;have nNC:N≠C:=λz=>by rw [z,I0.hC] at hN;cases hN
  generalize upd H N (.lst [])=H1 at k1 e1;refine goN ?_
  ac_rfl
  refine⟨_,rfl,R,_,rfl,.inl (aG.of (k1 _ _ I0.hR)),((rs.map V.ref).length:Int),rfl,by rw [av];omega,by rw [av];omega,?_⟩;rw [show (((rs.map V.ref).length:Nat):Int).toNat=aa.length by rw [av];omega]
  let qF:pU:=λi σ H5=>∃(ks:List Nat)(y6:Option V),σ=[aM R,aM L,some (.str x),aM C,some (.int (m:Int)),aM N,y6,none,none]/\aB H H5/\H5 N=some (.lst (lC ks))/\ks.length<=i/\(∀k∈ks,∃ru,aa[k]?=some ru/\ru.1=x)/\∀(k:Nat)(ru:au),k < i->aa[k]?=some ru->ru.1=x->k∈ks
  refine g_ (n:=aa.length) qF
   ⟨[],none,rfl,k1,e1,aD _,(λk h=>by cases h),λk _ h=>by omega⟩ ?_ ?_
  .intro i σ H5 hi lD
   ac_nf0
   obtain⟨ks,y6,rfl,s5,e5,l5,m5,c5⟩:=lD;have er:aa[i]?=some aa[i]:=b_ hi;generalize iS:aa[i]=ru at er;obtain⟨r,err,p,v1,v2⟩:=Paired.at_ I0.cT i ru er;have Bi:lS (rs.map V.ref) (0+(i:Int))=some (.ref r):=by
    rw [jZ];exact cf (by rw [bo,err];rfl)
   refine goN ?_
   ac_nf
   refine⟨_,rfl,_,rfl,R,_,_,_,rfl,rfl,aG.of (s5 _ _ I0.hR),Bi,r,_,_,_,rfl,rfl,s5.tup v1,rfl,_,rfl,rfl,decide (ru.1=x),?_,?_⟩
   .show V.bl (decide (V.str ru.1=V.str x))=_;by_cases h:ru.1=x
    .rw [bN h,bN (congrArg V.str h)]
    rw [cV h,cV (λy=>h (by injection y))]
   refine cE (λc=>?_) (λc=>?_)
   .have c':=dA c;refine⟨_,rfl,.inl ⟨rfl,_,aG.of e5⟩,_,rfl,N,_,_,rfl,rfl,e5,bF (by unfold lC;rw [av];omega),?_⟩;refine⟨ks++[i],_,rfl,?_,?_,by rw [bp,d_];omega,λk hk=>?_,λk IJ lk e2 h2=>?_⟩
    .intro b o hb;rw [ai (λz=>by rw [z,hN] at hb;cases hb)];exact s5 b o hb
    .rw [ae];unfold lC;rw [bG,jZ];rfl
    .rcases cq.mp hk with h | h
     .exact m5 k h
     rw [bC.mp h];exact⟨ru,er,c'⟩
    by_cases ck:k < i
    .exact iH _ (c5 k IJ ck e2 h2)
    have:k=i:=by omega
    rw [this];exact fU _ cJ
   refine⟨ks,_,rfl,s5,e5,∅,m5,λk IJ lk e2 h2=>?_⟩;by_cases ck:k < i
   .exact c5 k IJ ck e2 h2
   have:k=i:=by omega
   rw [this,er] at e2;cases e2;exact absurd (bN h2) c
  rintro σ H5 ⟨ks,y6,rfl,s5,e5,l5,m5,c5⟩;have ksn:ks≠[]:=by
   obtain⟨ru,iS,ex⟩:=cy.mp (I0.ls.sub x hx);obtain⟨k,ek⟩:=ix iS;have:=c5 k ru (bj.mp ek).1 ek ex;exact λz=>by rw [z] at this;cases this
  have I5:=I0.go (Jd:=cs) (λb o _ h=>s5 b o h) (s5 _ _ I0.hC) (aD _);obtain⟨lv,lt,el,tl,Ti⟩:=I5.ls.get hx;have leaf:∀{H6:Hp},aB H5 H6->Q lv H6:=λs6=>q lv lt cs _ (λb o _ h=>s6 _ _ (s5 _ _ h)) (s6 _ _ I5.hC) (aD _) (gH.keep (λ_ _ y=>s6.tup y) lt tl) (Ti.up (by have:=I0.QL;omega));have QI:∀{H6:Hp},aB H5 H6->bX H6 L (.str x) (some lv):=λs6=>by
   have:=bX.k (k:=Sum.inr x) (s6 _ _ I5.ls.hL);rw [el] at this;exact this
  refine⟨_,rfl,rM,λL4 T_=>?_⟩;have k6:=af T_ (.lst []);have e6:upd H5 L4 (.lst []) L4=some (.lst []):=ae;generalize upd H5 L4 (.lst [])=H6 at k6 e6;have I6:=I5.go (Jd:=cs) (λb o _ h=>k6 b o h) (k6 _ _ I5.hC) (aD _);refine⟨C,L4,_,rfl,rfl,aG.of I6.hC,aG.of e6,_,rfl,?_⟩;refine cE (λc=>?_) (λc=>?_)
  .exact⟨_,rfl,_,rfl,L,_,rfl,QI k6,leaf k6⟩
  refine⟨_,rfl,rfl,decide ((m:Int)=0),?_,?_⟩
  .show V.bl (decide (V.int (m:Int)=V.int 0))=_;by_cases h:(m:Int)=0
   .rw [bN h,bN (congrArg V.int h)]
   rw [cV h,cV (λy=>h (by injection y))]
  refine cE (λc2=>?_) (λc2=>?_)
  .exact⟨_,rfl,_,rfl,L,_,rfl,QI k6,leaf k6⟩
  have m0:(m:Int)≠0:=λz=>c2 (bN z);obtain⟨m',rfl⟩:∃m',m=m'+1:=⟨m - 1,∅⟩;have csn:cs≠[]:=λz=>by rw [z] at c;exact c rfl
  obtain⟨xy,c0,rfl⟩:∃xy c0,cs=xy++[c0]:=⟨cs.dropLast,cs.getLast csn,(List.dropLast_concat_getLast csn).symm⟩;have RL:=I6.hC;rw [bG] at RL;refine⟨_,rfl,_,rfl,.inl ⟨rfl,_,aG.of RL⟩,C,_,.int c0,rfl,rfl,RL,yc,?_⟩;rw [show (xy.map V.int++[c0].map V.int).dropLast=xy.map V.int from pb ..];have k7:cY C H6 (upd H6 C (.lst (xy.map V.int))):=λb o nb hb=>by rw [ai nb];exact hb
  have e7:upd H6 C (.lst (xy.map V.int)) C=some (.lst (xy.map V.int)):=ae;have XS:upd H6 C (.lst (xy.map V.int)) N=some (.lst (lC ks)):=by rw [ai nNC];exact k6 _ _ e5
  generalize upd H6 C (.lst (xy.map V.int))=H7 at k7 e7 XS;have I7:=I6.go k7 e7 (by rw [bp];omega);obtain⟨hp,k,hk,ek⟩:=Yt ksn c0;obtain⟨ru,er,rfl⟩:=m5 k hk;refine⟨_,rfl,N,_,rfl,.inl (aG.of XS),_,_,rfl,rfl,hp,N,_,_,_,rfl,rfl,aG.of XS,ek,?_⟩;refine⟨rM,λD hD=>?_⟩;have k8:=af hD (.lst []);have e8:upd H7 D (.lst []) D=some (.lst []):=ae;have VX:D≠C:=λz=>by rw [z,e7] at hD;cases hD
  have nRD:R≠D:=λz=>by
   have h:=I7.hR;rw [z,hD] at h;cases h
  generalize upd H7 D (.lst [])=H8 at k8 e8;have I8:=I7.go (Jd:=xy) (λb o _ h=>k8 b o h) (k8 _ _ e7) (aD _);obtain⟨r,err,p,v1,v2⟩:=Paired.at_ I8.cT k ru er;have Bi:lS (rs.map V.ref) (k:Int)=some (.ref r):=cf (by rw [bo,err];rfl);have Ny:=I0.h3 ru (b8 er);refine⟨_,rfl,_,rfl,R,_,_,_,rfl,rfl,aG.of I8.hR,Bi,r,_,_,_,rfl,rfl,v1,rfl,p,rfl,⟨_,v2⟩,?_⟩
  let Bq:pU:=λi σ H9=>∃(LR:List Int)(ys:List V)(ts:List Tr)(y8:Option V),σ=[aM R,aM L,some (.str ru.1),aM C,some (.int ((m'+1:Nat):Int)),aM N,some (.int (k:Int)),aM D,y8]/\(∀b o,b≠C->b≠D->H8 b=some o->H9 b=some o)/\Bl K H9 R L C rs aa es kvs LR/\LR.length<=xy.length/\H9 D=some (.lst ys)/\aR K H9 p (ru.2.map V.str)/\Paired (λv t=>gH K H9 t v) ys ts/\Paired (λt z=>jh aa (3+m') t z) ts (ru.2.take i)
  refine oz (xs:=ru.2.map V.str) Bq
   ⟨xy,[],[],none,rfl,λb o _ _ h=>h,I8,aD _,e8,v2,.nil,.nil⟩ ?_ ?_ ?_
  .rintro i σ H9 _ ⟨LR,ys,ts,y8,rfl,_,_,_,_,TL,_⟩;exact TL
  .intro i z0 σ H9 RR lD
   ac_nf0
   obtain⟨LR,ys,ts,y8,rfl,s9,I9,l9,XX,TL,p1,p2⟩:=lD;rw [bo] at RR;obtain⟨z,ez,rfl⟩:=cg.mp RR;have li:=(bj.mp ez).1;have l1:=a_ p1;have l2:=a_ p2;rw [dD] at l2;refine goN ?_
   ac_rfl
   refine⟨λσ HA=>∃(Pf:List Int)(v:V)(t:Tr),σ=[aM R,aM L,some (.str ru.1),aM C,some (.int ((m'+1:Nat):Int)),aM N,some (.int (k:Int)),aM D,some v]/\cY C H9 HA/\Bl K HA R L C rs aa es kvs Pf/\Pf.length<=xy.length/\gH K HA t v/\jh aa (3+m') t z,?_,?_⟩
   .refine⟨_,rfl,_,rfl,L,_,rfl,bX.k (k:=Sum.inr z) I9.ls.hL,_,rfl,?_⟩;rw [I9.ls.at_ z];refine cE (λcz=>?_) (λcz=>?_)
    .refine⟨_,rfl,_,rfl,_,rfl,_,rfl,_,rfl,_,_,rfl,rfl,?_⟩;refine⟨R,L,C,rs,aa,es,kvs,LR,z,m',(by show [V.ref R,V.ref L,V.str z,V.ref C,V.int (((m'+1:Nat):Int) - 1)]=_;rw [show (((m'+1:Nat):Int) - 1)=(m':Int) by omega]),rfl,I9,dA cz,λv t Pf HA sA eA lA UW VA=>?_⟩;exact⟨Pf,v,t,rfl,sA,I9.go sA eA lA,dI lA l9,UW,VA⟩
    have nz:z∉es:=λh=>cz (bN h);exact⟨LR,.str z,.w z,rfl,λ_ _ _ h=>h,I9,l9,by unfold gH;rfl,jh.word λh=>nz (I0.all z (me.mpr h))⟩
   rintro σ HA ⟨Pf,v,t,rfl,sA,IA,lA,UW,VA⟩;have Up:=sA _ _ VX XX;have kt:∀a xs,aR K HA a xs->aR K (upd HA D (.lst (ys++[v]))) a xs:=λ_ _ z=>aW Up z;refine⟨_,rfl,.inl ⟨rfl,_,aG.of Up⟩,_,rfl,D,_,_,rfl,rfl,Up,bF ∅,?_⟩;have sB2:cY D HA (upd HA D (.lst (ys++[v]))):=λb o nb hb=>by rw [ai nb];exact hb
   refine⟨Pf,ys++[v],ts++[t],_,rfl,λb o nC nD h=>?_,⟨?_,IA.cT.keep kt,IA.len,IA.h3,IA.ls.xZ sB2 Up,IA.all,IA.QL,?_,IA.A4,IA.nR⟩,lA,ae,kt _ _ (sA.Tb I9.hC _ _ TL),?_,?_⟩
   .rw [ai nD];exact sA _ _ nC (s9 _ _ nC nD h)
   .rw [ai nRD];exact IA.hR
   .rw [ai (fq VX)];exact IA.hC
   .exact cv (Paired.eJ p1 λ_ t y=>gH.keep (λ_ _ x=>kt _ _ (sA.Tb I9.hC _ _ x)) t y) (.cons (gH.keep kt t UW) .nil)
   rw [cQ,ez];exact cv p2 (.cons VA .nil)
  rintro σ H9 ⟨LR,ys,ts,y8,rfl,s9,I9,l9,XX,TL,p1,p2⟩;rw [av,cP] at p2;refine⟨_,rfl,_,rfl,D,_,rfl,.inl ⟨aG.of XX,λt2 N2=>⟨oK,λnd fnd=>?_⟩⟩⟩;have kA:=(af N2 (.tup ys)).trans (af fnd (.tup [.int (k:Int),.ref t2]));have vt:aR K (upd (upd H9 t2 (.tup ys)) nd (.tup [.int (k:Int),.ref t2])) t2 ys:=(af fnd _).tup (aR.of ae);have vn:aR K (upd (upd H9 t2 (.tup ys)) nd (.tup [.int (k:Int),.ref t2])) nd [.int (k:Int),.ref t2]:=aR.of ae;generalize upd (upd H9 t2 (.tup ys)) nd (.tup [.int (k:Int),.ref t2])=HA at kA vt vn;refine q (.ref nd) (.n k (gW.n6 ts)) LR HA (λb o nC h=>?_) (kA _ _ I9.hC) (by rw [bp];omega) ?_ ?_
  .refine kA _ _ (s9 _ _ nC (λz=>?_) (k8 _ _ (k7 _ _ nC (k6 _ _ (s5 _ _ h)))));rw [z] at h;rw [k7 _ _ VX (k6 _ _ (s5 _ _ h))] at hD;cases hD
  .unfold gH;exact⟨nd,t2,ys,rfl,vn,vt,iq.Tj (Paired.eJ p1 λ_ t y=>gH.keep (λ_ _ x=>kA.tup x) t y)⟩
  exact jh.node er Ny p2
end
theorem wD:∀(ds:List Dd),(ds.flatMap K0).length<=ds.length
 | []=>aD _
 | .step z::r=>by rw [vy,bp,dS];have:=wD r;show 1+_<=_;omega
 | .make k::r=>by rw [vy,bp,dS];have:=wD r;show 0+_<=_;omega
def MQ (t:Tr):(row t).length<=sz t:=by
 have h1:=wD (iU t);have h2:=oG t;rw [vW] at h1;omega
section
def xT (K:a8):Sp:=λvs H Q _=>∃(R C:Addr)(rs:List Addr)(aa:List au) (eX:List Str)(cs:List Int)(x:Str),vs=[.ref R,.str x,.ref C]/\H R=some (.lst (rs.map V.ref))/\bJ K H rs aa/\aa.length<=8/\(∀ru∈aa,ru.2.length<=3)/\eX.length<=3/\(∀z∈hm aa,z∈eX)/\(∀z∈hm aa,z∈cH true aa)/\aG K H C (cs.map V.int)/\cs.length<=1000/\x∈hm aa /\
 ∀(v:V)(t:Tr)(H':Hp),aB H H'->gH K H' t v->jh aa 9 t x->(row t).length<=40->Q v H'
abbrev NDt:List Str:=["_law_rules","_law_name","_law_cells","_law_least_here","_law_tree_here"]
def sf:aI NDt ["_law_rules","_law_name","_law_cells"] (ay wt):=iT rfl rfl rfl rfl nofun
def Dq (F:iz K "_law_drawn_tree" "_law_drawn_tree" wt f fd)(T:Txt mg)(GL:aE P w K mg base 10 "_law_least" ["_law_rules"] (xS K))(GT:aE P w K mg base 10 "_law_tree" ["_law_rules","_law_least_here","_law_name","_law_cells","_law_deep"] (vY K 7))
  (GD:aE P w K mg base 10 "_law_deeds" ["_law_tree_here"] (nK K 10)):bR P w K mg base fY 11 f fd ["_law_rules","_law_name","_law_cells"] (xT K):=by
 refine F.ok sf (λvs H Q E h=>?_) (λeK A outer s H vs Q E hr h=>?_)
 .obtain⟨R,C,rs,aa,eX,cs,x,rfl,_⟩:=h;rfl
 obtain⟨R,C,rs,aa,eX,cs,x,rfl,hR,cT,br,h3,TM,NC,NM,hC,Hz,hx,q⟩:=h;have hu:=fX hr;refine⟨_,aj (aC (i:=3) sf.nd rfl (bB rfl) (bc GL hr rfl (ab (pv 0) ah)))
  (aj (aC (i:=4) sf.nd rfl (bB rfl) (bc GT hr rfl (ab (pv 0) (ab (pv 3) (ab (pv 1) (ab (aV cZ rfl T.lst dZ (ab (pv 2) ah)) (ab ar ah)))))))
  (aj (bU (bw yh (aF aK rfl T.len dJ (ab (ba ["_law_deed"] [] rfl (aX (bc GD hr rfl (ab (pv 4) ah))) (a9 rfl rfl) nofun rfl nofun
    (λ_ _ _ _ _=>ao (i:=0) (show (["_law_deed"]:List Str).Nodup by decide +kernel) rfl (bB rfl)) (λ_ _ _ _ _=>hU (bw iO (aP (jT K) (pv 0) ar (λ_ _=>rfl)) cD (bW _))) (λ_ _ _ _ _=>pv 0)) ah)) ar (bW _))
   (ak (aQ (eI hu (pv 3) (pv 1) (λ_ _=>rfl)))) aS)
  (ak (aQ (pv 4))))),?_⟩
 nofun
 refine⟨_,rfl,R,rs,aa,eX,rfl,aG.of hR,cT,br,h3,TM,NC,λL kvs H1 fL s1 L1 l3=>?_⟩;refine⟨_,rfl,_,rfl,_,rfl,_,rfl,C,_,rfl,.inl (s1.seq hC),λC2 IX=>?_⟩;have k2:=af IX (.lst (cs.map V.int));have e2:upd H1 C2 (.lst (cs.map V.int)) C2=some (.lst (cs.map V.int)):=ae;have fC:H C2=none:=s1.free IX;have nRC:R≠C2:=λz=>by rw [z,fC] at hR;cases hR
 generalize upd H1 C2 (.lst (cs.map V.int))=H2 at k2 e2;have s2:=s1.trans k2;have I2:Bl K H2 R L C2 rs aa (cH true aa) kvs cs:=⟨s2 _ _ hR,cT.same s2,br,h3,L1.same k2,NM,l3,e2,Hz,nRC⟩;refine⟨R,L,C2,rs,aa,cH true aa,kvs,cs,x,6,rfl,rfl,I2,NM x hx,λv t Jd H3 sT e3 l' tv ok=>?_⟩;have s3:aB H H3:=λb o hb=>sT b o (λz=>by rw [z,fC] at hb;cases hb) (s2 b o hb);have I3:=I2.go sT e3 l';obtain⟨lv,lt,el,tl,Ti⟩:=I3.ls.get (NM x hx);have dt:=ok.deep;have st:sz t<=29524:=dI ok.size nofun;refine⟨_,rfl,v,t,rfl,tv,∅,∅,λD as H4 fD s4 eD pd=>?_⟩;have lad:=a_ pd;have Tu:=oG t;refine⟨D,rfl,⟨_,aG.of eD⟩,λD2 i5=>cI (xs:=as.map V.ref) (λk ys σ2 HC=>ys.length=(((iU t).take k).flatMap K0).length/\(∃y0,σ2=[y0])/\aB H4 HC/\HC D2=some (.lst ys))
    ⟨rfl,⟨none,rfl⟩,af i5 _,ae⟩ (λk ys σ2 HC _ h=>?_) (λk y ys σ2 HC ex h=>?_) (λys σ2 HC h=>?_)⟩
 .obtain⟨_,_,sC,_⟩:=h;exact aG.of (sC _ _ eD)
 .obtain⟨ly,⟨y0,rfl⟩,sC,eC⟩:=h;rw [bo] at ex;obtain⟨ad,ead,rfl⟩:=cg.mp ex;have li:=(bj.mp ead).1;obtain⟨d,ed⟩:∃d,(iU t)[k]?=some d:=⟨(iU t)[k]'∅,b_ ∅⟩;obtain⟨ad',R_,vd⟩:=Paired.at_ pd k d ed;rw [ead] at R_;cases R_;have Uw:ys.length<=1000000:=by
   have:=wD ((iU t).take k);rw [dD] at this;omega
  have HR:((iU t).take (k+1)).flatMap K0=((iU t).take k).flatMap K0++K0 d:=by
   rw [cQ,ed,qa];simp
  refine goN ?_;cases d with
  | step z =>
   have vA:aR K HC ad [.str "step",.str z]:=aR.of (sC _ _ vd);refine⟨_,rfl,ad,_,_,_,rfl,rfl,vA,rfl,rfl,_,rfl,?_⟩;refine g9 ?_;refine⟨_,rfl,eC,bF Uw,?_,⟨_,rfl⟩,λb o hb=>?_,ae⟩
   .rw [HR,bp,bp,ly];rfl
   rw [ai (λz=>by rw [z,i5] at hb;cases hb)];exact sC b o hb
  | make k2 =>
   have vA:aR K HC ad [.str "make",.int (k2:Int)]:=aR.of (sC _ _ vd);refine⟨_,rfl,ad,_,_,_,rfl,rfl,vA,rfl,rfl,_,rfl,?_⟩;refine du ?_;refine⟨?_,⟨_,rfl⟩,sC,eC⟩;rw [HR];show _=(_++[]).length;rw [iu];exact ly
 obtain⟨ly,_,sC,eC⟩:=h;rw [av,qX ∅,vW] at ly;have s5:=s4.trans sC;have UX:=gH.keep (λ_ _ z=>s5.tup z) t tv;refine⟨D2,_,rfl,.inl (aG.of eC),_,_,rfl,rfl,_,rfl,?_⟩;refine cE (λc=>?_) (λc=>?_)
 .have lg:bX HC L (.str x) (some lv):=by
   have:=bX.k (k:=Sum.inr x) (s5 _ _ I3.ls.hL);rw [el] at this;exact this
  refine⟨_,rfl,_,rfl,L,_,rfl,lg,?_⟩;refine q lv lt HC (s3.trans s5) (gH.keep (λ_ _ y=>s5.tup y) lt tl) (Ti.up ∅) ?_;have h1:=MQ lt;have h2:sB (cH true aa).length<=sB 3:=K5 l3;have h4:sB 3=40:=rfl;have:=Ti.size;omega
 refine⟨_,rfl,q v t HC (s3.trans s5) UX ok ?_⟩;have c':¬(40:Int) < (ys.length:Int):=λh=>c (bN h);omega
end
def PB {A:Around}{k n:Nat}(hr:fh k A)(h:n<=16 * k+200):A.units+n < cLine:=by have:=hr.un;omega
def N7 {aa:List au}:∀{t:Tr}{p:Str},Is aa t p->ie aa t p=true
 | .w z,p,h=>by
  unfold Is at h;obtain⟨rfl,nh⟩:=h;show (!decide (p∈hd aa) && decide (p=p))=true;rw [cV nh,bN rfl];rfl
 | .n k cs,p,h=>by
  unfold Is at h;obtain⟨bD,e,_⟩:=h;show (decide (p∈hd aa) && decide (AV aa k=some p))=true;rw [bN (sR (ru:=(p,bD)) (b8 e)),bN (by unfold AV;rw [e];rfl)];rfl
theorem Ci:∀ts:gW,gW.n6 ts.kr=ts
 | .nil=>rfl
 | .cons t r=>by show gW.cons t (gW.n6 r.kr)=_;rw [Ci r]
mutual
theorem wC {aa:List au}:∀(t:Tr)(x:Str)(p:List Tr),Is aa t x->fP (mV aa) ((iU t).map De.d) p=some (p++[t])
 | .w z,x,p,h=>by
  unfold Is at h;unfold iU;show (if z∈hd aa then none else some (p++[Tr.w z])).bind (fP (mV aa) [])=_;rw [aw h.2];rfl
 | .n k cs,x,p,h=>by
  unfold Is at h;obtain⟨bD,er,hi⟩:=h;rw [Cy,bG,jm,x_ cs bD p hi];obtain⟨ln,pr⟩:=xB.paired cs hi;show (ic aa k (p++cs.kr)).bind (fP (mV aa) [])=_;have em:ic aa k (p++cs.kr)=some (p++[.n k cs]):=by
   unfold ic;rw [er];have l1:(p++cs.kr).length - bD.length=p.length:=by rw [bp];omega
   show (if (decide (bD.length<=(p++cs.kr).length) && ku aa ((p++cs.kr).drop ((p++cs.kr).length - bD.length)) bD)=true then some ((p++cs.kr).take ((p++cs.kr).length - bD.length)++[.n k (gW.n6 ((p++cs.kr).drop ((p++cs.kr).length - bD.length)))]) else none)=_;rw [l1,List.drop_left,List.take_left,Ci,bN (by rw [bp];omega),xb ln (λi t q et eq=>N7 (pr i t q et eq))];rfl
  rw [em];rfl
theorem x_ {aa:List au}:∀(ts:gW) (ps:List Str)(p:List Tr),xB aa ts ps->fP (mV aa) ((jw ts).map De.d) p=some (p++ts.kr)
 | .nil,ps,p,h=>by
  unfold jw;show some p=some (p++[]);rw [iu]
 | .cons t r,ps,p,h=>by
  unfold xB at h;obtain⟨q,ER,rfl,h1,h2⟩:=h;unfold jw;rw [bG,jm,wC t q p h1];show fP (mV aa) ((jw r).map De.d) (p++[t])=_;rw [x_ r ER (p++[t]) h2,lV];rfl
end
def F3 {aa:List au}{t:Tr}{x:Str}(h:Is aa t x)(hx:x∈hd aa):resT aa ((iU t).map De.d++[.dn])=some t:=by
 unfold resT;rw [rF,rJ,pb];show Eg (fP (mV aa) ((iU t).map De.d) [])=some t;rw [wC t x [] h];cases t with
 | w z =>
  unfold Is at h;exact absurd (h.1 ▸ hx) h.2
 | n k cs=>rfl
mutual
theorem Cw {aa:List au}:∀(t:Tr)(x:Str),Is aa t x->∀k,Dd.make k∈iU t->k < aa.length
 | .w z,x,h,k,m=>by
  unfold iU at m;have:=bC.mp m;cases this
 | .n j cs,x,h,k,m=>by
  unfold Is at h;obtain⟨bD,er,hi⟩:=h;rw [Cy] at m;rcases cq.mp m with q | q
  .exact yP cs bD hi k q
  cases bC.mp q;exact(bj.mp er).1
theorem yP {aa:List au}:∀(ts:gW) (ps:List Str),xB aa ts ps->∀k,Dd.make k∈jw ts->k < aa.length
 | .nil,ps,h,k,m=>by unfold jw at m;cases m
 | .cons t r,ps,h,k,m=>by
  unfold xB at h;obtain⟨q,ER,rfl,h1,h2⟩:=h;unfold jw at m;rcases cq.mp m with y | y
  .exact Cw t q h1 k y
  exact yP r ER h2 k y
end
def Ou {aa:List au}{t:Tr}{x:Str}(h:Is aa t x):∀d∈(iU t).map De.d,IG aa d:=by
 intro d hd2;obtain⟨y,hy,rfl⟩:=cy.mp hd2;cases y with
 | step z=>exact trivial
 | make k=>exact Cw t x h k hy
abbrev Vg:Stmt:=top 59
section
def Mw (K:a8) (n:Nat):Sp:=λvs H Q _=>∃(v u:V)(t:Tr),vs=[v,u]/\gH K H t v/\gH K H t u/\dp t < n/\sz t<=100000/\∀H',aB H H'->Q (.bl true) H'
def Ve:aI ["_law_answer","_law_tree_here"] ["_law_answer","_law_tree_here"] (ay Vg):=iT rfl rfl rfl rfl nofun
theorem La (F:iz K "_law_is" "_law_is" Vg f fd)(T:Txt mg)(b1:Binds K fd ["_law_answer","_law_tree_here"] [])(m1:mg "_law_is"=some (.ref f)):∀n,bR P w K mg base fY n f fd ["_law_answer","_law_tree_here"] (Mw K n)
 | 0=>⟨λvs H Q E ⟨_,_,_,e,_⟩=>by rw [e];rfl,λA outer s H args us vs Q E _ _ _ _ ⟨_,_,_,_,_,_,h,_⟩=>absurd h (rj _)⟩
 | n+1=>by
  have G:aE P w K mg base n "_law_is" ["_law_answer","_law_tree_here"] (Mw K n):=⟨f,fd,La F T b1 m1 n,b1,F.kp,m1⟩;refine F.ok Ve (λvs H Q E h=>?_) (λeK A outer s H vs Q E hr h=>?_)
  .obtain⟨_,_,_,rfl,_⟩:=h;rfl
  obtain⟨v,u,t,rfl,hv,hu,Rz,hsz,q⟩:=h;refine⟨_,aj (bU (PW.pt (kZ (dG (aF cK rfl T.EV ka (ab (pv 1) (ab (gi (v:=.ty "str") rfl T.str jx rfl) ah)))) (jK (iM (dG (aF cK rfl T.EV ka (ab (pv 0) (ab (gi (v:=.ty "tuple") rfl T.tup qc rfl) ah))))))))
    (ak (aQ (jN (aF cK rfl T.EV ka (ab (pv 0) (ab (gi (v:=.ty "str") rfl T.str jx rfl) ah))) (jM (fg iO (pv 0) (pv 1) (bW _)))))) aS)
   (aj (bU (PW.pt (kZ (bw Ce (aF aK rfl T.len dJ (ab (pv 0) ah)) ar (bW _)) (kZ (iM (dG (aF cK rfl T.EV ka (ab (aP bq (pv 0) ar (λ_ _=>rfl)) (ab (gi (v:=.ty "int") rfl T.int PyProof.Rows.boot_int rfl) ah)))))
     (jK (dG (aF cK rfl T.EV ka (ab (aP bq (pv 0) ar (λ_ _=>rfl)) (ab (gi (v:=.ty "bool") rfl T.boo PyProof.Rows.boot_bool rfl) ah))))))))
    (ak (aQ dW)) aS)
   (aj (bU (PW.pt (kZ (iM (dG (aF cK rfl T.EV ka (ab (aP bq (pv 0) ar (λ_ _=>rfl)) (ab (gi (v:=.ty "tuple") rfl T.tup qc rfl) ah)))))
     (kZ (bw Ce (aF aK rfl T.len dJ (ab (aP bq (pv 0) ar (λ_ _=>rfl)) ah)) (aF aK rfl T.len dJ (ab (aP bq (pv 1) ar (λ_ _=>rfl)) ah)) (bW _))
     (jK (bw Ce (aP bq (pv 0) ar (λ_ _=>rfl)) (aP bq (pv 1) ar (λ_ _=>rfl)) (bW _))))))
    (ak (aQ dW)) aS)
   (ak (aQ (aF (gC rfl) rfl T.all boot_all (ab (ba ["_law_k"] [(0,"_law_answer"),(1,"_law_tree_here")] rfl (gy rfl T.C8 (ab (aF aK rfl T.len dJ (ab (aP bq (pv 1) ar (λ_ _=>rfl)) ah)) ah)) (a9 rfl rfl) nofun rfl nofun
    (λ_ _ _ _ _=>ao (i:=0) (show (["_law_k","_law_answer","_law_tree_here"]:List Str).Nodup by decide +kernel) rfl (bB rfl)) (λ_ _ _ _ _=>bQ)
    (λ_ _ _ _ _=>bc G hr rfl (ab (aP (jT K) (aP (jT K) (pv 1) ar (λ_ _=>rfl)) (pv 0) (λ_ _=>rfl)) (ab (aP (jT K) (aP (jT K) (pv 2) ar (λ_ _=>rfl)) (pv 0) (λ_ _=>rfl)) ah)))) ah)))))),?_⟩
  nofun
  cases t with
  | w z =>
   unfold gH at hv hu;subst hv hu;refine⟨_,rfl,.str z,"str","str",true,rfl,.str z,dY,true,rfl,?_⟩;refine g9 ?_;refine⟨_,rfl,.str z,"str","str",true,rfl,.str z,dY,true,rfl,?_⟩;refine g9 ?_;refine⟨_,rfl,_,rfl,rfl,?_⟩;rw [bN rfl];exact q H (aB.refl H)
  | n k cs =>
   have Z2:=hv;have TF:=hu;unfold gH at hv hu;obtain⟨a1,p1,vs1,rfl,EZ,IQ,hc1⟩:=hv;obtain⟨a2,p2,Pz,rfl,RI,oM,NP⟩:=hu;have Zk:=iq.paired cs hc1;have Zj:=iq.paired cs NP;have lc1:=a_ Zk;have lc2:=a_ Zj;have uW:1+Kw cs < n+1:=by unfold dp at Rz;exact Rz
   have hs1:1+zP cs<=100000:=by unfold sz at hsz;exact hsz
   have TJ:=V3 cs.kr;rw [<-BA] at TJ;refine⟨_,rfl,.ref a2,"tuple","str",false,rfl,.tup RI,wW,false,rfl,?_⟩;refine du ?_;refine⟨_,rfl,.ref a1,"tuple","tuple",true,rfl,.tup EZ,dY,true,rfl,?_⟩;refine du ?_;refine⟨_,rfl,a1,_,rfl,.inr EZ,rfl,false,rfl,?_⟩;refine du ?_;refine⟨_,rfl,a1,_,_,_,rfl,rfl,EZ,rfl,.int k,"int","int",true,rfl,.int k,dY,true,rfl,?_⟩;refine du ?_;refine⟨_,rfl,a1,_,_,_,rfl,rfl,EZ,rfl,.int k,"int","bool",false,rfl,.int k,AK,false,rfl,?_⟩;refine du ?_;refine⟨_,rfl,a1,_,_,_,rfl,rfl,EZ,rfl,.ref p1,"tuple","tuple",true,rfl,.tup IQ,dY,true,rfl,?_⟩;refine du ?_;refine⟨_,rfl,a1,_,_,_,rfl,rfl,EZ,rfl,p1,_,rfl,.inr IQ,_,rfl,a2,_,_,_,rfl,rfl,RI,rfl,p2,_,rfl,.inr oM,rfl,false,?_,?_⟩
   .rw [lc1,lc2];show V.bl (!decide (_=_))=_;rw [bN rfl];rfl
   refine du ?_;refine⟨_,rfl,a1,_,_,_,rfl,rfl,EZ,rfl,_,rfl,a2,_,_,_,rfl,rfl,RI,rfl,rfl,false,?_,?_⟩
   .show V.bl (!decide (_=_))=_;rw [bN rfl];rfl
   refine du ?_;refine⟨_,rfl,a2,_,_,_,rfl,rfl,RI,rfl,p2,_,rfl,.inr oM,_,rfl,∅,∅,λD1 hD1=>?_⟩;rw [gJ];refine yU (λj ys σ2 H2=>ys=(List.replicate j true).map V.bl/\(∃y0,σ2=[y0,aM a1,aM a2])/\aB H H2/\H2 D1=some (.lst ys)) ⟨rfl,⟨none,rfl⟩,af hD1 _,ae⟩ (λj ys σ2 H2 hj h=>?_) (λys σ2 H2 h=>?_)
   .obtain⟨rfl,⟨y0,rfl⟩,sm,eD⟩:=h;obtain⟨tc,N9⟩:∃tc,cs.kr[j]?=some tc:=⟨cs.kr[j]'∅,b_ ∅⟩;obtain⟨x1,e1,tv1⟩:=Paired.at_ Zk j tc N9;obtain⟨x2,e2,OJ⟩:=Paired.at_ Zj j tc N9;have Ux:lS vs1 (0+(j:Int))=some x1:=by rw [jZ];exact cf e1
    have at2:lS Pz (0+(j:Int))=some x2:=by rw [jZ];exact cf e2
    have jU:=b8 N9;have d1:=A_ cs tc jU;have z1:=vV cs tc jU;refine goN ?_;refine⟨_,rfl,a1,_,_,_,rfl,rfl,sm.tup EZ,rfl,_,rfl,p1,_,_,_,rfl,rfl,sm.tup IQ,Ux,_,rfl,a2,_,_,_,rfl,rfl,sm.tup RI,rfl,_,rfl,p2,_,_,_,rfl,rfl,sm.tup oM,at2,x1,x2,tc,rfl,gH.keep (λ_ _ z=>sm.tup z) tc tv1,gH.keep (λ_ _ z=>sm.tup z) tc OJ,∅,∅,λH3 s3=>?_⟩;refine⟨s3 _ _ eD,bF (by rw [av,List.length_replicate];omega),?_,⟨_,rfl⟩,?_,ae⟩
    .rw [List.replicate_succ',bG];rfl
    intro b o hb;rw [ai (λz=>by rw [z,hD1] at hb;cases hb)];exact s3 _ _ (sm b o hb)
   obtain⟨rfl,_,sm,eD⟩:=h;refine⟨D1,_,rfl,aG.of eD,?_⟩;rw [show (List.replicate Pz.length true).all id=true by simp];exact q H2 sm
end
end gT
namespace L2
open PySem PySem.Spec PyProof.Rows
def yg (t:SetTable) (n:Nat):(t.orStandIn n).led=t.led:=by
 unfold SetTable.orStandIn;by_cases h:t.fits n=true
 .rw [ax h]
 rw [aw h];rfl
def AJ (t:SetTable)(es:Array (Int×Value)) (h:Int)(x:Value):(layNew t es h x).2.1.led=t.led:=by
 unfold layNew;cases e:t.freeSlot h with
 | none=>rfl
 | some q =>
  obtain⟨j,b⟩:=q;show ((t.put j).1.orStandIn _).led=t.led;rw [yg];rfl
def Ha {m f k:Nat}{led pl:Bool}{hs:Array Int}{t:SetTable}{o:Array Nat}(h:SetTable.laid m f k led pl hs=some (t,o)):t.led=led/\t.plain=pl:=by
 unfold SetTable.laid at h;simp only [Option.bind_eq_bind,Option.bind_eq_some_iff] at h;obtain⟨ow,_,h2⟩:=h;cases h2;exact⟨rfl,rfl⟩
def Dc (t:SetTable)(es:Array (Int×Value)) (n:Nat):(relayAll t es n).2.1.led=t.led/\(t.plain=false->(relayAll t es n).2.1.plain=false):=by
 unfold relayAll;cases e:t.relaid (es.map (·.1)) n with
 | none=>exact⟨rfl,λ_=>rfl⟩
 | some q =>
  obtain⟨t',o⟩:=q;have h:=Ha e;dsimp only
  split
  .exact⟨h.1,λz=>h.2.trans z⟩
  exact⟨rfl,λ_=>rfl⟩
def kS:Value->Str
 | .str z _=>z
 | _ => ""
def gh (P:Program)(w:World)(h:Heap)(a:Addr)(led:Bool) (ds:List Str):Prop:=∃(o:Obj)(es:Array (Int×Value)) (ep:Nat)(t:SetTable),h.get? a=some o/\o.ExactSet/\o.data=.set es ep t/\ElemsOf (strKind P w) es.toList/\(∀e∈es.toList,∃z k,e.2=.str z k)/\(es.toList.map λe=>kS e.2).Perm ds/\t.fits es.size=true/\t.led=led/\(0 < es.size->t.plain=false)
theorem gh.size {es:Array (Int×Value)}{ds:List Str}(h:(es.toList.map λe=>kS e.2).Perm ds):es.size=ds.length:=by
 rw [<-h.length_eq,av,iG]
def gh.at {P:Program}{w:World}{h h':Heap}{a:Addr}{led:Bool}{ds:List Str}(T:gh P w h a led ds)(k:∀o,h.get? a=some o->h'.get? a=some o):gh P w h' a led ds:=by
 obtain⟨o,es,ep,t,ho,r⟩:=T;exact⟨o,es,ep,t,k _ ho,r⟩
section
variable {P:Program}{w:World}{A:Around}{E:Value->Shared->Prop}{s:Shared}
def rO {h:Heap}{a:Addr}{o:Obj}{es ik:Array (Int×Value)}{ep:Nat}{t t':SetTable}{led:Bool}{ds:List Str}(ho:h.get? a=some o)(hx:o.ExactSet)(hd:o.data=.set es ep t)(DO:ElemsOf (strKind P w) ik.toList)(mZ:∀e∈ik.toList,∃z k,e.2=.str z k)(hp:(ik.toList.map λe=>kS e.2).Perm ds)(hf:t'.fits ik.size=true)(hl:t'.led=led)(uU:t'.plain=false) :
  (h.update a (Obj.putSet ik t')).get? a=some { o with data:=.set ik (ep+1) t' }/\gh P w (h.update a (Obj.putSet ik t')) a led ds:=by
 have g:(h.update a (Obj.putSet ik t')).get? a=some { o with data:=.set ik (ep+1) t' }:=by
  have q:=qT (Obj.putSet ik t') ho (by rw [putSet_of ik t' hd];rfl);rw [putSet_of ik t' hd] at q;exact q
 exact⟨g,_,ik,ep+1,t',g,hx,rfl,DO,mZ,hp,hf,hl,λ_=>uU⟩
def zd {g:Bool->Sem Unit}(hg:∀(b:Bool)(s₁:Shared)(Q':Unit->Shared->Prop),Q' () s₁->wpAny (model P w) A (g b) Q' E s₁){a:Addr}{o:Obj}{es pP:Array (Int×Value)}{ep:Nat}{t t2:SetTable}{led wd:Bool}{ds:List Str}{R:Option Bool->Shared->Prop}
  (ho:s.heap.get? a=some o)(hx:o.ExactSet)(hd:o.data=.set es ep t)(Hw:ElemsOf (strKind P w) pP.toList)(Hm:∀e∈pP.toList,∃z k,e.2=.str z k)(IQ:(pP.toList.map λe=>kS e.2).Perm ds)(IU:pP.size < scanBound)(f2:t2.fits pP.size=true)(l2:t2.led=led)(p2:t2.plain=false)
  (q:∀h',Heap.SameBut a s.heap h'->gh P w h' a led ds->R (some true) { s with heap:=h' }) :
  wpAny (model P w) A (storeSet a pP t2 >>= λ_=>if (!wd && t2.tooFull)=true then g (relayAll t2 pP (SetTable.grown pP.size)).2.2 >>= λ_=>storeSet a (relayAll t2 pP (SetTable.grown pP.size)).1 (relayAll t2 pP (SetTable.grown pP.size)).2.1 >>= λ_=>pure (some true) else pure (some true)) R E s:=by
 refine aq (wpAny_storeSet_of ho hd ?_ (fits_of_scanBound IU));obtain⟨EW,T1⟩:=rO (P:=P) (w:=w) ho hx hd Hw Hm IQ f2 l2 p2;have Y7:=mD s.heap a (Obj.putSet pP t2)
 split
 .have rp:=relayAll_perm t2 pP (SetTable.grown pP.size);have rf:=relayAll_fits t2 pP (SetTable.grown pP.size);have rl:=Dc t2 pP (SetTable.grown pP.size);generalize relayAll t2 pP (SetTable.grown pP.size)=Rl at rp rf rl ⊢;obtain⟨es2,t3,g2⟩:=Rl;dsimp only at rp rf rl ⊢;have sz2:es2.size=pP.size:=by rw [<-iG,rp.length_eq,iG]
  refine aq (hg _ _ _ ?_);refine aq (wpAny_storeSet_of EW rfl ?_ (fits_of_scanBound ∅));obtain⟨_,T2⟩:=rO (P:=P) (w:=w) (led:=led) (ds:=ds) EW hx rfl (Hw.perm rp) (λe he=>Hm e (rp.mem_iff.mp he)) ((rp.map λe=>kS e.2).trans IQ) rf (rl.1.trans l2) (rl.2 p2);exact aH (q _ (Y7.trans (mD _ a _)) T2)
 exact aH (q _ Y7 T1)
def KJ {a:Addr}{led:Bool}{ds:List Str}{z:Str}{k:Tok}{Q:Bool->Shared->Prop}(T:gh P w s.heap a led ds)(hb:ds.length+1 < scanBound)
  (q:∀(b:Bool)(h':Heap),Heap.SameBut a s.heap h'->gh P w h' a led (if z∈ds then ds else ds++[z])->Q b { s with heap:=h' }):wpAny (model P w) A (setAddHashed a (.str z k) ((strKind P w).hash z)) Q E s:=by
 obtain⟨o,es,ep,t,ho,hx,hd,DO,mZ,hp,hf,hl,uU⟩:=T;have hsz:=gh.size hp;have Kf:=strKind_is P w z k;have WH:(Value.str z k).scannable=true:=rfl;unfold setAddHashed setAddHashedIn;refine iW (aq (oY ho hd hf ?_));dsimp only;rw [byScan_of WH ∅ DO];simp only [↓reduceIte];unfold setAddByScan;refine aq (aq (il (aq (wpAny_setScan_of Kf ho hd hf DO ?_))));have mem:∀e∈es.toList,(strKind P w).is z e.2=true↔kS e.2=z:=λe he=>by
  obtain⟨z',k',e2⟩:=mZ e he;rw [e2];show Value.isStrOf z (.str z' k')=true↔z'=z;simp [Value.isStrOf]
 cases hr:List.findIdx? (λe=>(strKind P w).is z e.2) es.toList with
 | some j =>
  dsimp only;obtain⟨hj,hpj,_⟩:=List.findIdx?_eq_some_iff_getElem.mp hr;have zi:z∈ds:=hp.mem_iff.mp (cy.mpr ⟨_,pY hj,(mem _ (pY hj)).mp hpj⟩);refine aH (aH ?_);have e:s={ s with heap:=s.heap }:=by cases s;rfl
  have:=q false s.heap (Heap.SameBut.refl a s.heap) (by rw [ax zi];exact⟨o,es,ep,t,ho,hx,hd,DO,mZ,hp,hf,hl,uU⟩);rw [e];exact this
 | none =>
  dsimp only;have zn:z∉ds:=λzi=>by
   obtain⟨e,he,e2⟩:=cy.mp (hp.mem_iff.mpr zi);have:=List.findIdx?_eq_none_iff.mp hr e he;rw [(mem e he).mpr e2] at this;cases this
  rw [aw zn] at q;have uk:=layNew_perm t es ((strKind P w).hash z) (.str z k);have TY:=layNew_fits t es ((strKind P w).hash z) (.str z k);have TR:=AJ t es ((strKind P w).hash z) (.str z k);generalize layNew t es ((strKind P w).hash z) (.str z k)=L at uk TY TR ⊢;obtain⟨pP,t1,wd,gv⟩:=L;dsimp only at uk TY TR ⊢;rw [Array.toList_push] at uk;have Hw:ElemsOf (strKind P w) pP.toList:=(DO.push Kf WH).perm uk;have Hm:∀e∈pP.toList,∃z k,e.2=.str z k:=λe he=>by
   rcases cq.mp (uk.mem_iff.mp he) with h | h
   .exact mZ e h
   rw [bC.mp h];exact⟨z,k,rfl⟩
  have IQ:(pP.toList.map λe=>kS e.2).Perm (ds++[z]):=by
   have h1:=uk.map λe=>kS e.2;rw [bG] at h1;exact h1.trans (hp.append_right _)
  have Wx:=gh.size IQ;rw [bp,d_] at Wx;have gw:∀(b:Bool){s₁:Shared}{Q':Unit->Shared->Prop},Q' () s₁->wpAny (model P w) A (match b with | true=>rule "set.scan.the-table-gave-way" | false=>pure ()) Q' E s₁:=λb s₁ Q' hq=>by cases b <;> first | exact aH hq | exact il hq
  refine aq (gw _ ?_);have fin:∀h',Heap.SameBut a s.heap h'->gh P w h' a led (ds++[z])->Q true { s with heap:=h' }:=λh' b t=>q true h' b t;have IU:pP.size < scanBound:=by omega
  split
  .refine aq ?_;rw [hashByValue_scannable 8 WH];refine aH ?_;refine zd ?_ ho hx hd Hw Hm IQ IU (SetTable.fits_plain_off TY) (TR.trans hl) rfl ?_
   .intro b s₁ Q' hq;cases b <;> first | exact aH hq | exact il hq
   intro h' Kb E2;dsimp only;exact aH (fin h' Kb E2)
  rename_i np
  refine aq (aH ?_);simp only [↓reduceIte];refine zd ?_ ho hx hd Hw Hm IQ IU TY (TR.trans hl) (by simpa using np) ?_
  .intro b s₁ Q' hq;cases b <;> first | exact aH hq | exact il hq
  intro h' Kb E2;dsimp only;exact aH (fin h' Kb E2)
end
def ip (val:Nat->Str):Nat->List Str
 | 0=>[]
 | i+1=>if val i∈ip val i then ip val i else ip val i++[val i]
theorem sJ (val:Nat->Str):∀i,(ip val i).length<=i
 | 0=>aD _
 | i+1=>by
  have:=sJ val i;show (if val i∈ip val i then ip val i else ip val i++[val i]).length<=i+1
  split
  .omega
  rw [bp,d_];omega
section
variable {P:Program}{w:World}{A:Around}{R:Result->Shared->Prop}{I:Addr}{fp wr:List Addr}{G:Array GenState->Array GenState->Prop}{n:Nat}{Pv:Nat->Value->Prop}{St:Nat->Shared->Prop}
def G6 (W:WalksS P w A.in1 I fp wr G n Pv St)(S:Addr)(T9:S∉fp)(val:Nat->Str)(Wv:∀i v,Pv i v->∃t,v=.str (val i) t)(hb:n+1 < scanBound)(led:Bool) :
  ∀(k i:Nat)(s:Shared),n - i=k->i<=n->St i s->gh P w s.heap S led (ip val i) ->
   (∀s',Moved (S::wr) G s s'->gh P w s'.heap S led (ip val n)->R (.ok (.ret .none)) s') ->
   codeAny (model P w) A (.builtin "set.update.loop" ⟨[.ref S,.ref I],[]⟩) R s:=by
 have hSw:S∉wr:=λh=>T9 (W.sub _ h);have sub:∀b∈wr,b∈S::wr:=λb hb=>cW _ hb;intro k
 induction k with
 | zero =>
  intro i s hk hi mZ hS hR;obtain rfl:i=n:=by omega
  refine kM F.entry_set_update_loop ?_;rw [lW F.plain_set_update_loop _];show wpAny _ A.in1 (pyNext (.ref I) >>= _) _ _ s;refine aq (W.done s _ _ mZ λs' hm=>?_);show wpAny _ A.in1 (ret Value.none) _ _ s';exact aH (hR s' (hm.mono sub) (hS.at λo e=>hm.heap S _ hSw e))
 | succ k ih =>
  intro i s hk hi mZ hS hR;have je:i < n:=by omega
  refine kM F.entry_set_update_loop ?_;rw [lW F.plain_set_update_loop _];show wpAny _ A.in1 (pyNext (.ref I) >>= _) _ _ s;refine aq (W.item i s _ _ je mZ λv s' hP Wy hm=>?_);obtain⟨t,rfl⟩:=Wv i v hP;have E2:gh P w s'.heap S led (ip val i):=hS.at λo e=>hm.heap S _ hSw e;show wpAny _ A.in1 (holding [Value.str (val i) t] (setAdd S (.str (val i) t)) >>= _) _ _ s';refine aq (iW ?_);unfold setAdd;refine iW ?_;refine aq ((strKind P w).pyHash (k:=val i) (strKind_is _ _ _ _) ?_);have room:(ip val i).length+1 < scanBound:=by have:=sJ val i;omega
  refine KJ (s:={ s' with toks:=s'.toks+1 }) E2 room λb h' Kb DT=>?_;refine aH ⟨i9 F.plain_set_update_loop _,ih (i+1) _ ∅ je (W.frame _ s' _ _ Wy (i7 _) λb hb o e=>?_) DT λMO WV Xe=>?_⟩
  .rw [Kb.2 b (λh:b=S=>T9 (by rw [<-h];exact hb))];exact e
  refine hR MO (Moved.trans W.gtrans ((hm.mono sub).then_heap (i7 _) λb o hb e=>?_) WV) Xe;rw [Kb.2 b (λh:b=S=>hb (by rw [h];exact cJ))];exact e
end
section
variable {P:Program}{w:World}{A:Around}{E:Value->Shared->Prop}{s:Shared}
abbrev yx (w:World):Bool:=!(w.params.followText "set-order")
def Fv (a:Value){Q₁:Value->Shared->Prop}(h:Q₁ (.ref s.heap.objs.size) { s with heap:=s.heap.push { cls:=.type "set",dict:=none,data:=.set #[] 0 (.fresh 0 0 (yx w)) } }) :
  codeAny (model P w) A (.call (.builtin "set.__new__") ⟨[.type "set",a],[]⟩) (wants Q₁ E) s:=by
 refine codeAny_of_tree ?_;show wpAny _ A.in1 (do checkBuiltinCall "set.__new__" ⟨[.type "set",a],[]⟩;again (.builtin "set.__new__" ⟨[.type "set",a],[]⟩)) _ _ s;refine aq (wpAny_of_eq (F.newCall_set_1 a) (aH ⟨i9 F.plain_set_new _,kM F.entry_set_new ?_⟩));rw [lW F.plain_set_new _];unfold Builtin.«set.__new__» Builtin.Frozenset.newClass;have Q_:=sub_set_self;obtain⟨hp,g,d,tk,os⟩:=s;dsimp only
 wp_walk
 refine oV (aH ?_);dsimp only;simp only [newObj];refine aq (wpAny_alloc (aH ?_));exact aH h
def xI {h:Heap}{a:Addr}{led:Bool}(e:h.get? a=some { cls:=.type "set",dict:=none,data:=.set #[] 0 (.fresh 0 0 led) }):gh P w h a led [] :=
 ⟨_,#[],0,_,e,⟨rfl,rfl,rfl⟩,rfl,λe he=>by simp at he,λe he=>by simp at he,by simp,rfl,rfl,λz=>absurd z (jC 0)⟩
abbrev JZ (w:World):Obj:={ cls:=.type "set",dict:=none,data:=.set #[] 0 (.fresh 0 0 (yx w)) }
def v_ {l S:Addr}{items:Array Value}{val:Nat->Str}{h0:Heap}{Q:Value->Shared->Prop}(hh:A.handled=none)(hs:s.heap=h0.push (JZ w))(hS:S=h0.objs.size)(hl:h0.IsList l items)(hi:∀i v,items[i]?=some v->∃t,v=Value.str (val i) t)(hb:items.size+1 < scanBound)
  (q:∀(h':Heap) (tk:Nat),gh P w h' S (yx w) (ip val items.size)->(∀b o,b < h0.objs.size->h0.get? b=some o->h'.get? b=some o)->Q .none { s with heap:=h',toks:=tk }) :
  codeAny (model P w) A (.call (.builtin "set.__init__") ⟨[.ref S,.ref l],[]⟩) (wants Q E) s:=by
 have gS:s.heap.get? S=some (JZ w):=by rw [hs,hS];exact cA _ rfl
 have tS:s.TypeIs (.ref S) "set" := ⟨_,gS,rfl⟩;refine jA (vE (R:=wants Q E) kP.init.plain F.entry_set_init (check_set_init_1 tS ?_)) λr s2 h=>h;obtain⟨ol,OX,m_,nl,Lw⟩:=hl;obtain⟨oc,od,oda,wJ⟩:=ol;simp only at m_ Lw;subst m_;subst Lw;have Z_:l < h0.objs.size:=bu OX;have WO:s.heap.get? l=some { cls:=.type "list",dict:=od,data:=.seq items nl,slots:=wJ }:=by rw [hs];exact bH _ OX
 have n1:=F.sub_list_set;have n2:=F.sub_list_frozenset;have n3:(Value.type "list" == Value.type "dict")=false:=by decide
 have Rp:s.heap.IsList l items:=⟨_,WO,rfl,nl,rfl⟩;unfold Builtin.«set.__init__» noKeywords Builtin.Frozenset.updateFrom;generalize hPI:pyIter=PI
 wp_walk
 subst hPI;refine mx Rp ?_;refine aq (wpAny_runValue ?_);have h3:A.in1.in1.handled=none:=by simp [hh]
 have sz:s.heap.objs.size=h0.objs.size+1:=by rw [hs,j6]
 have nI:l≠s.heap.objs.size:=by rw [sz];exact bE (pZ Z_)
 have T9:S∉[s.heap.objs.size,l]:=by
  rw [sz,hS];simp only [bY,bC,rq,or_false,not_or];exact⟨bE (j8 _),j4 Z_⟩
 refine G6 ((Walks.list h3 _ l nI items).toS) S T9 val hi hb (yx w) (items.size - 0) 0 _ ∅ (fj _) ?mZ ?hS0 ?hR
 case mZ=>exact⟨⟨_,cA _ rfl,rfl,rfl⟩,Rp.push _⟩
 case hS0=>exact xI (bH _ gS)
 intro s' hm E2;obtain⟨h',g',d',UZ,Qn⟩:=s';have eg:g'=s.gens:=hm.gens;have ed:d'=s.drawn:=hm.drawn;have eo:Qn=s.os:=hm.os;subst eg;subst ed;subst eo;show wpAny _ _ _ _ _ _;refine aH ?_;show wpAny _ _ (ret Value.none) _ _ _;refine aH (q h' UZ E2 λb o hb e=>?_);refine hm.heap b o ?_ (bH _ (show s.heap.get? b=some o by rw [hs];exact bH _ e));rw [sz,hS];simp only [bY,bC,rq,or_false,not_or];exact⟨bE hb,bE (pZ hb)⟩
def xl {l:Addr}{items:Array Value}{val:Nat->Str}{Q:Value->Shared->Prop}(hh:A.handled=none)(hl:s.heap.IsList l items)(hi:∀i v,items[i]?=some v->∃t,v=Value.str (val i) t)(hb:items.size+1 < scanBound)
  (q:∀(h':Heap) (tk:Nat),gh P w h' s.heap.objs.size (yx w) (ip val items.size)->(∀b o,b < s.heap.objs.size->s.heap.get? b=some o->h'.get? b=some o)->Q (.ref s.heap.objs.size) { s with heap:=h',toks:=tk }) :
  wpAny (model P w) A (call (.type "set") [.ref l]) Q E s:=by
 obtain⟨c,tl,aal⟩:=kP.mro;have Z8:=kP.made;have Q_:=kP.sub;refine kO (codeAny_of_tree ?_);show wpAny _ _ (callAny (.type "set") _) _ _ _;refine aH ⟨Code.quiet_builtin _ nofun,kM F.entry_type_call ?_⟩;rw [Around.under_plain (weight_type_call_type "set" [.ref l] []) rfl];have h1:=kP.notType;have h2:=kP.canCreate;have hct:=F.typeCall_set_1 (.ref l)
 repeat (any_goals (first | assumption | wp_step))
 refine jA (Fv (.ref l) (E:=E) (Q₁:=λv s1=>v=.ref s.heap.objs.size/\s1={ s with heap:=s.heap.push (JZ w) }) ⟨rfl,rfl⟩) λr s1 hr=>?_;cases r with
 | error e=>exact hr
 | ok fl =>
  cases fl with
  | ret obj =>
   obtain⟨rfl,rfl⟩:=hr;have hT:Shared.TypeIs { s with heap:=s.heap.push (JZ w) } (.ref s.heap.objs.size) "set" := ⟨_,cA _ rfl,rfl⟩;have hli:=kP.init.lookup;have hbi:=kP.init.bind (.ref s.heap.objs.size)
   repeat (any_goals (first | assumption | wp_step))
   refine jA (v_ (h0:=s.heap) (Q:=λv s2=>v=.none/\∃h' tk,s2={ s with heap:=h',toks:=tk }/\gh P w h' s.heap.objs.size (yx w) (ip val items.size)/\∀b o,b < s.heap.objs.size->s.heap.get? b=some o->h'.get? b=some o) (E:=E) ?_ rfl rfl hl hi hb λh' tk a b=>⟨rfl,h',tk,rfl,a,b⟩) λr2 s2 Lv=>?_
   .simp [hh]
   cases r2 with
   | error e=>exact Lv
   | ok fl2 =>
    cases fl2 with
    | ret r =>
     obtain⟨rfl,h',tk,rfl,E2,hk'⟩:=Lv
     repeat (any_goals (first | assumption | wp_step))
     exact q _ _ E2 hk'
    | _=>exact Lv.elim
  | _=>exact hr.elim
end
def xY (n:String)(id:String)(nm:Str)(hl:typeLookup (.type "set_iterator") nm=pure (some (.builtin id)))(hs:splitId id=some ("set_iterator",n))(h1:withoutEnding? id "#opaque"=none)(h2:withoutEnding? id "#data"=none)(h3:(Manifest.find? "set_iterator").bind (·.attrs.lookup n)=some .slot)(h4:plainId id=true):Slot "set_iterator" nm id :=
 .of hl hs h1 h2 (.inl h3) (by rw [isSubtype_type];kernel_rfl) h4
def dN:Slot "set_iterator" "__next__" "set_iterator.__next__" := xY "__next__" _ _ (by rw [typeLookup_type,vI];kernel_rfl) nofun nofun nofun nofun nofun
def lH:entryFor table "set_iterator.__next__"=some Builtin.«set_iterator.__next__»:=entryFor_of_fast (nofun)
def xc:entryFor table "set.__iter__"=some Builtin.«frozenset.__iter__»:=entryFor_alias (id' := "frozenset.__iter__") (nofun) rfl nofun (nofun)
def mf (a:Value):argsOk "set_iterator.__next__" ⟨[a],[]⟩:=by unfold argsOk;kernel_rfl
theorem mU {α:Type}:∀(l:List α) (i:Nat)(x:α),l[i]?=some x->(x::l.eraseIdx i).Perm l
 | [],i,x,h=>by cases h
 | a::r,0,x,h=>by cases h;exact List.Perm.refl _
 | a::r,i+1,x,h=>by
  have ih:=mU r i x h;show (x::a::r.eraseIdx i).Perm (a::r);exact(List.Perm.swap a x _).trans (ih.cons a)
theorem Ca {α:Type}(next:Nat->Nat):∀(f k:Nat)(left:List α)(out:Array α),left.length=f->(pickOrder.go next f k left out).toList.Perm (out.toList++left)
 | 0,k,left,out,h=>by
  rw [rK.mp h,iu];exact List.Perm.refl _
 | f+1,k,left,out,h=>by
  have lt:next k % left.length < left.length:=Nat.mod_lt _ ∅;have e:left[next k % left.length]?=some (left[next k % left.length]):=b_ lt;unfold pickOrder.go;rw [e];have ih:=Ca next f (k+1) (left.eraseIdx (next k % left.length)) (out.push left[next k % left.length]) (by rw [List.length_eraseIdx];rw [ax lt];omega);refine ih.trans ?_;rw [Array.toList_push,lV];exact(mU _ _ _ e).append_left _
def uK {α:Type}(next:Nat->Nat)(xs:Array α):(pickOrder next xs).toList.Perm xs.toList:=by
 have:=Ca next xs.size 0 xs.toList #[] iG;exact this
section
variable {M:Model}{A:Around}{E:Value->Shared->Prop}
def Mf {s:Shared}{src:Source}{n:Nat}{Q:Nat->Shared->Prop}(h0:n≠0)(h:∀j d,j < n->Q j { s with drawn:=d }):wpAny M A (choose src n) Q E s:=λ_ _ _=>⟨h0,h _ _ (Nat.mod_lt _ (Nat.pos_of_ne_zero h0))⟩
theorem Bu {α:Type}:∀(n:Nat)(xs:List α)(s:Shared)(Q:List α->Shared->Prop),xs.length=n->(∀ys d,ys.Perm xs->Q ys { s with drawn:=d })->wpAny M A (drawOrder n xs) Q E s
 | 0,xs,s,Q,h,q=>by
  rw [rK.mp h] at q ⊢;unfold drawOrder;exact aH (q [] s.drawn (List.Perm.refl _))
 | n+1,[],s,Q,h,q=>by cases h
 | n+1,a::r,s,Q,h,q=>by
  unfold drawOrder;refine aq (Mf (by rw [h];exact Nat.succ_ne_zero _) λj d lj=>?_);have e:(a::r)[j]?=some ((a::r)[j]):=b_ lj;rw [e];refine aq (Bu n ((a::r).eraseIdx j) _ _ (by rw [List.length_eraseIdx,ax lj];omega) λys d2 p=>?_);exact aH (q _ d2 ((p.cons _).trans (mU _ _ _ e)))
end
def mi (h:Heap)(I S:Addr)(fst:Value) (i n ep:Nat):Prop:=∃o,h.get? I=some o/\o.cls=.type "set_iterator" /\ o.data=.fields #[fst,.int i 0,.ref S,.int n 0,.int ep 0]
abbrev EB (w:World):Bool:=w.params.followText "set-order"
def qv (w:World)(h:Heap)(S:Addr)(es:Array (Int×Value)) (ep:Nat)(t:SetTable)(vals:List Value)(fst:Value) (i:Nat):Prop :=
 (EB w=true/\fst=.int 0 0/\vals=(pickOrder (w.params.setOrder S ep) es).toList.map (·.2)) \/
 (EB w=false/\∃(Pt:Addr)(ps:List Nat)(o:Obj) (n:Nat),fst=.ref Pt/\h.get? Pt=some o/\o.data=.seq (ps.map λp:Nat=>Value.int p 0).toArray n/\ps.Perm (List.range es.size)/\vals=ps.map λp=>(es.toList.getD p (0,.none)).2) \/
 (EB w=false/\es.size<=1/\(!t.plain && decide (1 < es.size))=false/\(!t.led && !es.isEmpty)=false/\∃k:Nat,fst=.int k 0/\vals=es.toList.map (·.2)/\(i=0->k=0)/\(i=1->∃j,t.place[0]?=some j/\k=j+1))
def range_getD (l:List (Int×Value)):((List.range l.length).map λp=>(l.getD p (0,Value.none)).2)=l.map (·.2):=by
 refine List.ext_getElem (by simp) λi h1 h2=>?_;simp at h1 h2;simp [nu,h1]
def qv.perm {w:World}{h:Heap}{S:Addr}{es:Array (Int×Value)}{ep:Nat}{t:SetTable}{vals:List Value}{fst:Value}{i:Nat}(m:qv w h S es ep t vals fst i):vals.Perm (es.toList.map (·.2)):=by
 rcases m with ⟨_,_,rfl⟩ | ⟨_,Pt,ps,o,n,_,_,_,p,rfl⟩ | ⟨_,_,_,_,k,_,rfl,_⟩
 .exact(uK _ _).map _
 .have:=p.map λp=>(es.toList.getD p (0,Value.none)).2;rw [<-iG,range_getD] at this;exact this
 exact List.Perm.refl _
section
variable {P:Program}{w:World}{A:Around}{E:Value->Shared->Prop}{s:Shared}
def Hi {S:Addr}{o:Obj}{es:Array (Int×Value)}{ep:Nat}{t:SetTable}{Q:Value->Shared->Prop}(ho:s.heap.get? S=some o)(hx:o.ExactSet)(hd:o.data=.set es ep t)(hf:t.fits es.size=true)(hl:t.led=!EB w)(hp:0 < es.size->t.plain=false)(hb:es.size < scanBound)
  (q:∀(I:Addr)(h':Heap)(d:Drawn)(vals:List Value)(fst:Value),(∀b o,s.heap.get? b=some o->h'.get? b=some o)->s.heap.objs.size<=I->mi h' I S fst 0 es.size ep->qv w h' S es ep t vals fst 0->(∀Pt,fst=.ref Pt->Pt≠I/\s.heap.objs.size<=Pt)->Q (.ref I) { s with heap:=h',drawn:=d }) :
  wpAny (model P w) A (pyIter (.ref S)) Q E s:=by
 have tS:s.TypeIs (.ref S) "set" := ⟨o,ho,hx.1⟩;refine wpAny_pyIter_slot tS F.slot_set_iter (j7 F.slot_set_iter tS xc ?_ (F.args_set_iter_1 _));show wpAny _ _ (Builtin.Frozenset.sizeOf S >>= _) _ _ s;refine aq ?_;unfold Builtin.Frozenset.sizeOf;refine aq (wpAny_setEntries_of ho hd hf (aH ?_));show wpAny _ _ (setDrawn S >>= _) _ _ s;refine aq ?_;unfold setDrawn setsByText;refine aq (oY ho hd hf ?_);dsimp only;refine aq (aq (oV (aH ?_)));refine aH ?_;show wpAny _ _ (if (!EB w && (!t.plain && decide (es.size > 1)))=true then _ else _) _ _ s;by_cases c:(!EB w && (!t.plain && decide (es.size > 1)))=true
 .rw [ax c];obtain⟨c1,c2⟩:=fk.mp c;have nb:EB w=false:=by simpa using c1
  refine aq (Bu es.size (List.range es.size) s _ mz λys d p=>?_);refine aq ?_;simp only [newTuple];refine gI ?_ ?_
  rotate_left
  .have l1:=p.length_eq;rw [mz] at l1;have:=fits_of_scanBound hb;show ((List.map (λi:Nat=>rawInt (i:Int)) ys).toArray).size<=sizeLine;rw [bO,av];omega
  refine aq (wpAny_setEpoch_of (bH _ ho) hd hf ?_);refine aq (gI (aH ⟨_,rfl,"set_iterator",_,⟨_,cA _ rfl,rfl⟩,dN.lookup,?_⟩));refine q _ _ d (ys.map λp=>(es.toList.getD p (0,.none)).2) _ (λb o e=>bH _ (bH _ e)) ?_ ⟨_,cA _ rfl,rfl,rfl⟩ (.inr (.inl ⟨nb,s.heap.objs.size,ys,_,_,rfl,bH _ (cA _ rfl),rfl,p,rfl⟩)) λPt e=>?_
  .rw [j6];exact i7 _
  cases e;rw [j6];exact⟨bE (j8 _),aD _⟩
 rw [aw c];refine aq (aH ?_);refine aq (wpAny_setEpoch_of ho hd hf ?_);refine aq (gI (aH ⟨_,rfl,"set_iterator",_,⟨_,cA _ rfl,rfl⟩,dN.lookup,?_⟩));have go:∀vals,qv w (s.heap.push { cls:=.type "set_iterator",data:=.fields [rawInt 0,rawInt 0,Value.ref S,rawInt es.size,rawInt ep].toArray }) S es ep t vals (.int 0 0) 0->Q (.ref s.heap.objs.size) { s with heap:=s.heap.push { cls:=.type "set_iterator",data:=.fields [rawInt 0,rawInt 0,Value.ref S,rawInt es.size,rawInt ep].toArray } }:=λvals m =>
  q _ _ s.drawn vals _ (λb o e=>bH _ e) (aD _) ⟨_,cA _ rfl,rfl,rfl⟩ m λPt e=>by cases e
 cases T6:EB w with
 | true=>exact go _ (.inl ⟨T6,rfl,rfl⟩)
 | false =>
  rw [T6] at c;have c3:¬(!t.plain && decide (es.size > 1))=true:=by simpa using c
  have Tt:es.size<=1:=by
   by_cases z:0 < es.size
   .rw [hp z] at c3;simp at c3;omega
   omega
  refine go _ (.inr (.inr ⟨T6,Tt,by simpa using c3,?_,0,rfl,rfl,λ_=>rfl,λz=>by cases z⟩));rw [hl,T6];rfl
def BZ {S:Addr}{o:Obj}{es:Array (Int×Value)}{ep:Nat}{t:SetTable}{R:Option (Value×Nat)->Shared->Prop}(ho:s.heap.get? S=some o)(hd:o.data=.set es ep t)(hf:t.fits es.size=true)(bt:EB w=true) (k i:Nat)(q:R (((pickOrder (w.params.setOrder S ep) es)[i]?).map λe=>(e.2,k)) s):wpAny (model P w) A (setNext S k i ep) R E s:=by
 unfold setNext setsByText;refine aq (oY ho hd hf ?_);dsimp only;refine aq (aq (oV (aH ?_)));show wpAny _ _ (if EB w=true then _ else _) _ _ s;rw [ax bt,show (ep != ep)=false by simp,aw c_];unfold setWalk setsByText;refine aq (aq (oY ho hd hf ?_));dsimp only;refine aq (aq (oV (aH ?_)));show wpAny _ _ (if EB w=true then _ else _) _ _ s;rw [ax bt];exact aq (oV (aH (aH q)))
def xX {S:Addr}{o:Obj}{es:Array (Int×Value)}{ep:Nat}{t:SetTable}{R:Option (Value×Nat)->Shared->Prop}(ho:s.heap.get? S=some o)(hd:o.data=.set es ep t)(hf:t.fits es.size=true)(bt:EB w=false)(dr:(!t.plain && decide (1 < es.size))=false)(ld:(!t.led && !es.isEmpty)=false) (k i:Nat)
  (q:R (match es[SetTable.below t.place k]?,t.place[SetTable.below t.place k]? with | some (_,x),some j=>some (x,j+1) | _,_=>none) s):wpAny (model P w) A (setNext S k i ep) R E s:=by
 unfold setNext setsByText;refine aq (oY ho hd hf ?_);dsimp only;refine aq (aq (oV (aH ?_)));show wpAny _ _ (if EB w=true then _ else if (!t.plain && decide (es.size > 1))=true then _ else _) _ _ s;rw [bt,aw c_,show (!t.plain && decide (es.size > 1))=false from dr,aw c_];refine aq ?_;show wpAny _ _ (if (!t.led && !es.isEmpty)=true then _ else _) _ _ s;rw [ld,aw c_];exact aH (aH q)
def rZ {I S:Addr}{fst:Value}{i n ep:Nat}{Q:Unit->Shared->Prop}(hit:mi s.heap I S fst i n ep)(x:Value)(q:∀h',Heap.SameBut I s.heap h'->mi h' I S x i n ep->Q () { s with heap:=h' }):wpAny (model P w) A (setField (.ref I) 0 x) Q E s:=by
 obtain⟨o,ho,hc,hd⟩:=hit;refine qY ho hd (by simp) (q _ (mD ..) ⟨_,qT _ ho (Obj.isFreed_of_fields (o6 hd _)),(Obj.cls_mapFields ..).trans hc,?_⟩);rw [o6 hd];simp
def rY {I S:Addr}{fst:Value}{i n ep:Nat}{Q:Unit->Shared->Prop}(hit:mi s.heap I S fst i n ep)(q:∀h',Heap.SameBut I s.heap h'->mi h' I S fst (i+1) n ep->Q () { s with heap:=h' }):wpAny (model P w) A (setField (.ref I) 1 (rawInt ((i:Int)+1))) Q E s:=by
 obtain⟨o,ho,hc,hd⟩:=hit;refine qY ho hd (by simp) (q _ (mD ..) ⟨_,qT _ ho (Obj.isFreed_of_fields (o6 hd _)),(Obj.cls_mapFields ..).trans hc,?_⟩);rw [o6 hd];simp [rawInt]
def vj (j k:Nat):SetTable.below #[j] k=if j < k then 1 else 0:=by
 unfold SetTable.below;show SetTable.below.go #[j] k 1 0 1=_;unfold SetTable.below.go;simp;by_cases c:j < k
 .rw [ax c,ax c];rfl
 rw [aw c,aw c];rfl
def G3 {S I:Addr}{o:Obj}{es:Array (Int×Value)}{ep i:Nat}{t:SetTable}{vals:List Value}{fst v:Value}{Q:Option Value->Shared->Prop}(hit:mi s.heap I S fst i es.size ep)(ho:s.heap.get? S=some o)(hd:o.data=.set es ep t)(hf:t.fits es.size=true)(m:qv w s.heap S es ep t vals fst i)(nI:∀Pt,fst=.ref Pt->Pt≠I)(hv:vals[i]?=some v)
  (q:∀(h':Heap)(HL:Value),Heap.SameBut I s.heap h'->mi h' I S HL (i+1) es.size ep->qv w h' S es ep t vals HL (i+1)->(∀Pt,HL=.ref Pt->fst=.ref Pt)->Q (some v) { s with heap:=h' }) :
  wpAny (model P w) A (pyNext (.ref I)) Q E s:=by
 obtain⟨oi,NB,RG,W_⟩:=id hit;have tI:s.TypeIs (.ref I) "set_iterator" := ⟨oi,NB,RG⟩;unfold pyNext;refine aq (oO (nr (name:=Str.ofString "__next__") tI dN (j7 dN tI lH ?_ (mf _))));show wpAny _ _ (fieldsOf (.ref I) >>= _) _ _ s;refine aq (wpAny_fieldsOf NB W_ ?_);show wpAny _ _ (setEntries S >>= _) _ _ s;refine aq (wpAny_setEntries_of ho hd hf ?_);have ne:((es.size:Int) != (es.size:Int))=false:=by simp
 dsimp only;rw [ne];rw [aw c_];rcases m with ⟨bt,rfl,Hk⟩ | ⟨bt,Pt,ps,po,pn,rfl,OW,TK,pp,Hk⟩ | ⟨bt,Tt,dr,ld,k,rfl,Hk,k0,k1⟩
 .dsimp only;simp only [gJ];rw [Hk,bo] at hv;obtain⟨e,ee,ev⟩:=cg.mp hv;refine aq (BZ ho hd hf bt _ _ ?_);rw [<-qW,ee];refine aq (rZ hit _ λh1 b1 i1=>aq (rY (s:={ s with heap:=h1 }) i1 λh2 b2 i2=>aH ⟨_,rfl,aH ?_⟩));show Q (some e.2) { s with heap:=h2 };rw [show e.2=v from ev];exact q h2 _ (b1.trans b2) i2 (.inl ⟨bt,rfl,Hk⟩) λPt z=>by cases z
 .dsimp only;simp only [gJ];refine aq (mr OW TK ?_);dsimp only;have Z2:=hv;rw [Hk,bo] at hv;obtain⟨p,LH,ev⟩:=cg.mp hv;have lp:p < es.size:=jD.mp (pp.mem_iff.mp (b8 LH));have e1:((ps.map λp:Nat=>Value.int p 0).toArray)[i]?=some (Value.int p 0):=by
   rw [List.getElem?_toArray,bo,LH];rfl
  rw [e1];dsimp only;refine aq ?_;unfold setNextDrawn;simp only [gJ];refine aq (oY ho hd hf ?_);dsimp only;rw [show (ep != ep)=false by simp,aw c_];have e2:es[p]?=some es[p]:=Array.getElem?_eq_getElem lp;rw [e2];have ev2:es[p].2=v:=by
   rw [<-ev,nu,qW,e2];rfl
  refine aH ?_;refine aq (rY hit λh2 b2 i2=>aH ⟨_,rfl,aH ?_⟩);show Q (some es[p].2) { s with heap:=h2 };rw [ev2];exact q h2 _ b2 i2 (.inr (.inl ⟨bt,Pt,ps,po,pn,rfl,b2.extBut Pt po (nI Pt rfl) OW,TK,pp,Hk⟩)) λPt z=>z
 dsimp only;simp only [gJ];have Z2:=hv;rw [Hk,bo,qW] at hv;obtain⟨e,ee,ev⟩:=cg.mp hv;have li:=(Array.getElem?_eq_some_iff.mp ee).1;obtain rfl:i=0:=by omega
 have sz:es.size=1:=by omega
 obtain rfl:=k0 rfl;have sp:t.place.size=1:=by
  have h1:(t.place.size == es.size && decide (t.fill<=t.mask))=true:=hf;have:=(fk.mp h1).1;rw [<-sz];simpa using this
 obtain⟨j,ej⟩:∃j,t.place=#[j]:=⟨t.place[0],Array.ext (by simp [sp]) λi h1 h2=>by
  have:i=0:=by simp at h2;exact h2
  subst this;rfl⟩
 refine aq (xX ho hd hf bt dr ld _ _ ?_);rw [ej,vj,aw (rj _),ee];obtain⟨eh,ex⟩:=e;show wpAny _ _ (setField (.ref I) 0 (rawInt ((j+1:Nat):Int)) >>= _) _ _ s;refine aq (rZ hit _ λh1 b1 i1=>aq (rY (s:={ s with heap:=h1 }) i1 λh2 b2 i2=>aH ⟨_,rfl,aH ?_⟩));show Q (some ex) { s with heap:=h2 };rw [show ex=v from ev];exact q h2 _ (b1.trans b2) i2 (.inr (.inr ⟨bt,Tt,dr,ld,j+1,rfl,Hk,(λz=>by cases z),λ_=>⟨j,by rw [ej];rfl,rfl⟩⟩)) λPt z=>by cases z
def vX {Q:Option Value->Shared->Prop}{F:PySem.Fin->Shared->Prop}(hh:A.handled=none)(q:∀h',(∀b o,s.heap.get? b=some o->h'.get? b=some o)->Q none { s with heap:=h' }) :
  wpAny (model P w) A.in1 (newExc (.type "StopIteration") [] >>= λx=>(raiseNew x:Sem PySem.Fin)) F (λe s'=>wpAny (model P w) A (isInstance e (Value.type "StopIteration") >>= λb=>if b=true then pure none else throw e) Q E s') s:=by
 refine aq ?_;simp only [newExc,newTuple];refine aq (gI ?_ (by size_fits));refine aq (m:=firstArgMember _ _) (wpAny_of_eq (a:=Value.none) (by first | rfl | (simp only [firstArgMember];rfl)) ?_)
 refine gI ?_ (by size_fits);simp only [raiseNew];refine aq (wpAny_handled ?_);rw [show A.in1.handled=none from hh];refine aq (aH (wpAny_throw ?_));refine aq (rh (T := "StopIteration") (b:=true) ⟨_,cA _ rfl,rfl⟩ isSubtype_stop ?_);exact aH (q _ λb o e=>bH _ (bH _ e))
def rX {I S:Addr}{fst:Value}{i n ep:Nat}{Q:Unit->Shared->Prop}(hit:mi s.heap I S fst i n ep)(q:∀h',Heap.SameBut I s.heap h'->Q () { s with heap:=h' }):wpAny (model P w) A (setField (.ref I) 2 Value.none) Q E s:=by
 obtain⟨o,ho,hc,hd⟩:=hit;exact qY ho hd (by simp) (q _ (mD ..))
def Kr {S I:Addr}{o:Obj}{es:Array (Int×Value)}{ep i:Nat}{t:SetTable}{vals:List Value}{fst:Value}{Q:Option Value->Shared->Prop}(hh:A.handled=none)(hit:mi s.heap I S fst i es.size ep)(ho:s.heap.get? S=some o)(hd:o.data=.set es ep t)(hf:t.fits es.size=true)(m:qv w s.heap S es ep t vals fst i)(hi:i=es.size)
  (q:∀(h':Heap),(∀b o,b≠I->s.heap.get? b=some o->h'.get? b=some o)->Q none { s with heap:=h' }) :
  wpAny (model P w) A (pyNext (.ref I)) Q E s:=by
 obtain⟨oi,NB,RG,W_⟩:=id hit;have tI:s.TypeIs (.ref I) "set_iterator" := ⟨oi,NB,RG⟩;have lv:vals.length=es.size:=by rw [m.perm.length_eq,av,iG]
 unfold pyNext;refine aq (oO (nr (name:=Str.ofString "__next__") tI dN (j7 dN tI lH ?_ (mf _))));show wpAny _ _ (fieldsOf (.ref I) >>= _) _ _ s;refine aq (wpAny_fieldsOf NB W_ ?_);show wpAny _ _ (setEntries S >>= _) _ _ s;refine aq (wpAny_setEntries_of ho hd hf ?_);have ne:((es.size:Int) != (es.size:Int))=false:=by simp
 dsimp only;rw [ne];rw [aw c_];rcases m with ⟨bt,rfl,Hk⟩ | ⟨bt,Pt,ps,po,pn,rfl,OW,TK,pp,Hk⟩ | ⟨bt,Tt,dr,ld,k,rfl,Hk,k0,k1⟩
 .dsimp only;simp only [gJ];refine aq (BZ ho hd hf bt _ _ ?_);have e0:(pickOrder (w.params.setOrder S ep) es)[i]?=none:=by
   rw [<-qW];refine qb ?_;rw [(uK _ _).length_eq,iG];omega
  rw [e0];exact aq (rX hit λh1 b1=>vX (s:={ s with heap:=h1 }) hh λh' k=>q h' λb o nb e=>k b o (b1.extBut b o nb e))
 .dsimp only;simp only [gJ];refine aq (mr OW TK ?_);dsimp only;have e0:((ps.map λp:Nat=>Value.int p 0).toArray)[i]?=none:=by
   rw [List.getElem?_toArray];refine qb ?_;rw [av,pp.length_eq,mz];omega
  rw [e0];exact aq (rZ hit _ λh0 b0 i0=>aq (rX (s:={ s with heap:=h0 }) i0 λh1 b1=>vX (s:={ s with heap:=h1 }) hh λh' k=>q h' λb o nb e=>k b o (b1.extBut b o nb (b0.extBut b o nb e))))
 dsimp only;simp only [gJ];refine aq (xX ho hd hf bt dr ld _ _ ?_);have sp:t.place.size=es.size:=by
  have h1:(t.place.size == es.size && decide (t.fill<=t.mask))=true:=hf;simpa using (fk.mp h1).1
 have e0:es[SetTable.below t.place k]?=none:=by
  by_cases z:es.size=0
  .exact vO ∅
  have i1:i=1:=by omega
  obtain⟨j,ej,rfl⟩:=k1 i1;obtain⟨j',ej'⟩:∃j,t.place=#[j]:=⟨t.place[0],Array.ext (by simp;omega) λi h1 h2=>by
   have:i=0:=by simp at h2;exact h2
   subst this;rfl⟩
  rw [ej'] at ej ⊢;cases (show some j'=some j from ej);rw [vj,ax (j8 _)];exact vO ∅
 rw [e0];exact aq (rX hit λh1 b1=>vX (s:={ s with heap:=h1 }) hh λh' k=>q h' λb o nb e=>k b o (b1.extBut b o nb e))
end
def lY:Slot "set_iterator" "__iter__" "set_iterator.__iter__" := xY "__iter__" _ _ (by rw [typeLookup_type,vI];kernel_rfl) nofun nofun nofun nofun nofun
def tF:entryFor table "set_iterator.__iter__"=some Builtin.«dict_keyiterator.__iter__»:=entryFor_alias (id' := "dict_keyiterator.__iter__") (nofun) rfl nofun (nofun)
def uv (a:Value):argsOk "set_iterator.__iter__" ⟨[a],[]⟩:=by unfold argsOk;kernel_rfl
def Kl (I S:Addr):Value->List Addr
 | .ref Pt=>[I,S,Pt]
 | _=>[I,S]
structure xA (w:World)(I S:Addr)(o:Obj)(es:Array (Int×Value)) (ep:Nat)(t:SetTable)(vals:List Value)(fp:List Addr) (i:Nat)(h:Heap)(fst:Value):Prop where
 it:mi h I S fst i es.size ep
 ho:h.get? S=some o
 md:qv w h S es ep t vals fst i
 pt:∀Pt,fst=.ref Pt->Pt∈fp/\Pt≠I
def xA.at {w:World}{I S:Addr}{o:Obj}{es:Array (Int×Value)}{ep:Nat}{t:SetTable}{vals:List Value}{fp:List Addr}{i:Nat}{h h':Heap}{fst:Value}(x:xA w I S o es ep t vals fp i h fst)(hI:I∈fp)(hS:S∈fp)(k:∀b∈fp,∀o,h.get? b=some o->h'.get? b=some o):xA w I S o es ep t vals fp i h' fst:=by
 obtain⟨⟨oi,a,b⟩,ho,md,pt⟩:=x;refine⟨⟨oi,k I hI _ a,b⟩,k S hS _ ho,?_,pt⟩;rcases md with m | ⟨bt,Pt,ps,po,pn,e,OW,r⟩ | m
 .exact .inl m
 .exact .inr (.inl ⟨bt,Pt,ps,po,pn,e,k Pt (pt Pt e).1 _ OW,r⟩)
 exact .inr (.inr m)
section
variable {P:Program}{w:World}{A:Around}{E:Value->Shared->Prop}{s:Shared}
def Fc {I S:Addr}{o:Obj}{es:Array (Int×Value)}{ep:Nat}{t:SetTable}{vals:List Value}{fp:List Addr}(hh:A.handled=none)(nIS:S≠I)(hI:I∈fp)(hS:S∈fp)(hd:o.data=.set es ep t)(hf:t.fits es.size=true) :
  WalksS P w A I fp [I] (λa b=>b=a) es.size (λi v=>vals[i]?=some v) (λi s=>∃fst,xA w I S o es ep t vals fp i s.heap fst) where
 sub:=λb hb=>by rw [bC.mp hb];exact hI
 grefl:=λ_=>rfl
 gtrans:=λ_ _ _ x y=>by rw [y,x]
 frame:=λi s h' tk ⟨fst,x⟩ _ k=>⟨fst,x.at hI hS k⟩
 item:=λi s Q E hi ⟨fst,x⟩ q=>by
  have lv:vals.length=es.size:=by rw [x.md.perm.length_eq,av,iG]
  have ev:vals[i]?=some vals[i]:=b_ ∅;refine G3 x.it x.ho hd hf x.md (λPt e=>(x.pt Pt e).2) ev λh' HL sb it md ke=>?_;refine q _ _ ev ⟨HL,it,sb.extBut S o nIS x.ho,md,λPt e=>x.pt Pt (ke Pt e)⟩ ⟨λb o hb e=>sb.extBut b o (λz=>hb (by rw [z];exact cJ)) e,rfl,rfl,rfl,aD _⟩
 done:=λs Q E ⟨fst,x⟩ q=>by
  refine Kr hh x.it x.ho hd hf x.md rfl λh' k=>q _ ⟨λb o hb e=>k b o (λz=>hb (by rw [z];exact cJ)) e,rfl,rfl,rfl,aD _⟩
 self:=λi s Q E ⟨fst,x⟩ q=>by
  obtain⟨oi,NB,RG,_⟩:=x.it;have tI:s.TypeIs (.ref I) "set_iterator" := ⟨oi,NB,RG⟩;refine wpAny_pyIter_slot tI lY (j7 lY tI tF ?_ (uv _));show wpAny _ _ (ret (.ref I)) _ _ s;exact aH ⟨_,rfl,"set_iterator",_,tI,dN.lookup,q⟩
def KY {α:Type}{M:Model}{c:Prop} [Decidable c] {a b:Sem α}{Q:α->Shared->Prop}(hc:c)(h:wpAny M A a Q E s):wpAny M A (if c then a else b) Q E s:=by rw [ax hc];exact h
abbrev RX:Obj:={ cls:=.type "list",data:=.seq ([]:List Value).toArray }
theorem xN:∀{vs:List Value},(∀v∈vs,∃z k,v=.str z k)->StrsAre vs (vs.map kS)
 | [],_=>.nil
 | v::r,h=>by
  obtain⟨z,k,e⟩:=h v cJ;subst e;exact .cons z k (xN λu hu=>h u (cW _ hu))
def yW {S:Addr}{ds:List Str}{Q:List Value->Shared->Prop}(hh:A.handled=none)(T:gh P w s.heap S (yx w) ds)(hb:ds.length < scanBound)
  (q:∀(h':Heap)(d:Drawn) (tk:Nat)(vs:List Value),(∀b o,s.heap.get? b=some o->h'.get? b=some o)->s.heap.objs.size<=h'.objs.size->(∃zs,StrsAre vs zs/\zs.Perm ds)->s.toks<=tk->Q vs { s with heap:=h',drawn:=d,toks:=tk }):wpAny (model P w) A (collect (.ref S)) Q E s:=by
 obtain⟨o,es,ep,t,ho,hx,hd,DO,mZ,uk,hf,hl,uU⟩:=T;have hsz:=gh.size uk;have nS:s.heap.objs.size≠S:=j4 (bu ho);unfold collect;refine aq (wpAny_runValue (kM F.entry_proto_collect ?_));rw [lW F.plain_proto_collect _];show wpAny _ A.in1 (newList [] >>= λl=>again (.builtin "list.__iadd__" ⟨[l,.ref S],[]⟩)) _ _ s;refine aq (gI ?_);refine aH ⟨i9 F.plain_list_iadd _,kM F.entry_list_iadd ?_⟩;rw [lW F.plain_list_iadd _];have EW:(s.heap.push RX).get? S=some o:=bH _ ho;show wpAny _ A.in1 (Builtin.List.listExtendWith (.ref s.heap.objs.size) (.ref S) (.ref s.heap.objs.size)) _ _ _;unfold Builtin.List.listExtendWith;refine aq (jY (T := "set") ⟨o,EW,hx.1⟩ ?_);have h1:Builtin.List.listSameRef (.ref s.heap.objs.size) (.ref S)=false:=by simp [Builtin.List.listSameRef,nS]
 have h2:(Value.type "set" == Value.type "list")=false:=by decide
 have h3:(Value.type "set" == Value.type "tuple")=false:=by decide
 simp only [h1,h2,h3,Bool.or_false,Bool.false_eq_true,if_false];refine aq (Hi (s:={ s with heap:=s.heap.push RX }) EW hx hd hf hl uU ∅ λI h2 d vals fst kp leI it md pt=>?_);refine aq (iW ?_);unfold Builtin.List.listLengthHint;have AO:=kp _ _ EW;refine aq (wpAny_specialOf (T := "set") ⟨o,AO,hx.1⟩ F.slot_set_len.lookup ?_);dsimp only;rw [show splitId "set.__len__"=some ("set","__len__") by decide +kernel];dsimp only;refine aq (rh (T := "set") (b:=true) ⟨o,AO,hx.1⟩ sub_set_self ?_);rw [Bool.not_true,aw c_];refine KY nofun ?_;refine aq (jY (T := "set") ⟨o,AO,hx.1⟩ ?_);refine aH ?_;refine KY nofun ?_;refine aq (il ?_);have DU:h2.get? s.heap.objs.size=some RX:=kp _ _ (cA _ rfl);refine aq ?_;show wpAny _ A.in1 (updateSeq s.heap.objs.size (·.push .none) >>= λ_=>updateSeq s.heap.objs.size (·.pop)) _ _ _;refine aq (wpAny_updateSeq DU rfl ?_);have hL3:=qT (Obj.mapSeq (·.push Value.none)) DU rfl;refine wpAny_updateSeq hL3 rfl ?_;have T_:=qT (Obj.mapSeq (·.pop)) hL3 rfl;have Vx:∀b o,b≠s.heap.objs.size->h2.get? b=some o->((h2.update s.heap.objs.size (Obj.mapSeq (·.push Value.none))).update s.heap.objs.size (Obj.mapSeq (·.pop))).get? b=some o:=λb o nb e=>(vK _ _ (fq nb)).trans ((vK _ _ (fq nb)).trans e);generalize (h2.update s.heap.objs.size (Obj.mapSeq (·.push Value.none))).update s.heap.objs.size (Obj.mapSeq (·.pop))=h4 at T_ Vx ⊢;have Ni:s.heap.objs.size+1<=I:=by
  have:(s.heap.push RX).objs.size<=I:=leI;rw [j6] at this;exact this
 have Zx:s.heap.objs.size≠I:=bE Ni;have nSI:S≠I:=bE (jB (bu ho) Ni);have Zg:∀Pt,fst=.ref Pt->Pt≠I/\s.heap.objs.size≠Pt:=λPt e=>⟨(pt Pt e).1,by
  have h:=(pt Pt e).2;have h':(s.heap.push RX).objs.size<=Pt:=h;rw [j6] at h';exact bE h'⟩
 have hI:I∈Kl I S fst:=by cases fst <;> simp [Kl]
 have hS:S∈Kl I S fst:=by cases fst <;> simp [Kl]
 have hL:s.heap.objs.size∉Kl I S fst:=by
  cases fst with
  | ref Pt=>simp only [Kl,bY,rq,or_false,not_or];exact⟨Zx,nS,(Zg Pt rfl).2⟩
  | _=>simp only [Kl,bY,rq,or_false,not_or];exact⟨Zx,nS⟩
 have EM:xA w I S o es ep t vals (Kl I S fst) 0 h2 fst:=⟨it,AO,md,λPt e=>⟨by rw [e];simp [Kl],(Zg Pt e).1⟩⟩;have Mu:=EM.at (h':=h4) hI hS λb hb o e=>Vx b o (λz=>hL (by rw [<-z];exact hb)) e;have W:=Fc (P:=P) (w:=w) (A:=A.in1) (vals:=vals) (by simp [hh]) nSI hI hS hd hf;refine aH ⟨i9 F.plain_extend_loop _,codeAny_extend_loopS W (fits_of_scanBound ∅) _ hL _ es.size 0 _ _ _ rfl (fj _) ⟨fst,Mu⟩ T_ (ItemsOf.nil _) λs' bI c' hm E2 uo=>?_⟩;show wpAny _ A (load s.heap.objs.size >>= _) _ _ s';refine aq (wpAny_load E2 ?_);obtain⟨h',g',d',UZ,Qn⟩:=s';have eg:g'=s.gens:=hm.gens;have ed:d'=d:=hm.drawn;have eo:Qn=s.os:=hm.os;subst eg;subst ed;subst eo;have lv:vals.length=es.size:=by rw [md.perm.length_eq,av,iG]
 have ea:bI.toList=vals:=by
  refine List.ext_getElem? λj=>?_;by_cases c:j < es.size
  .have h1:bI[j]?=some (bI[j]'(by rw [uo.1];exact c)):=Array.getElem?_eq_getElem _;rw [qW,h1];exact(uo.2 j _ h1).symm
  rw [qb (by rw [iG,uo.1];omega),qb ∅]
 refine aH (q h' d' UZ bI.toList (λb o e=>?_) (i8 (bu E2)) ?_ hm.toks)
 .have lb:=bu e;refine hm.heap b o ?_ (Vx b o (bE lb) (kp b o (bH _ e)));simp only [bY,rq,or_false,not_or];exact⟨bE lb,bE (jB lb Ni)⟩
 rw [ea];refine⟨vals.map kS,xN λv hv=>?_,?_⟩
 .obtain⟨e,he,rfl⟩:=cy.mp (md.perm.mem_iff.mp hv);exact mZ e he
 have h1:=md.perm.map kS;rw [iV] at h1;exact h1.trans uk
def zS {S:Addr}{ds:List Str}{Q:Value->Shared->Prop}(hh:A.handled=none)(T:gh P w s.heap S (yx w) ds)(Xs:ds.length < 64)
  (q:∀(h':Heap)(d:Drawn) (tk:Nat)(l:Addr) (e:Nat)(out:Array Value) (zs:List Str),(∀b o,s.heap.get? b=some o->h'.get? b=some o)->s.heap.objs.size<=l->h'.get? l=some (seqObj "list" out e)->StrsAre out.toList zs->zs.Perm ds->sortedS zs=true->s.toks<=tk->Q (.ref l) { s with heap:=h',drawn:=d,toks:=tk }) :
  wpAny (model P w) A (call (.builtin "sorted") [.ref S]) Q E s:=by
 refine Calls.call_function_entry kind_sorted plain_sorted entry_sorted (args_sorted1 _) ?_;unfold Builtin.«sorted»;refine aq (m:=checkCount "sorted" 1 1 _) (aH ?_);refine aq (yW (by simp [hh]) T (by unfold scanBound;omega) λh1 d tk vs kp le hz tk1=>?_);obtain⟨zs,hS,pz⟩:=hz;have lz:vs.length=ds.length:=by rw [<-pz.length_eq];exact StrsAre.length hS
 refine aq (wpAny_newList ?_);have Rj:(h1.push (seqObj "list" vs.toArray 0)).get? h1.objs.size=some (seqObj "list" vs.toArray 0):=cA _ rfl;refine aq (iW (j7 slot_list_sort ⟨_,Rj,rfl⟩ entry_list_sort (list_sort_treeK strKind_oneLt Rj hS.keysOf (λv₁ v₂ rest e=>keyKind_strs (by rw [<-e];exact hS)) ∅ λuF a1 a2=>⟨_,rfl,?_⟩) (args_list_sort _)));obtain⟨ss,b1,b2,b3⟩:=sorted_out_str hS a1 a2;obtain⟨e,he⟩:=sortedHeap_at (out:=(arrOf uF).map (·.2)) Rj;refine aH ⟨_,rfl,q _ d tk h1.objs.size e _ ss (λb o hb=>?_) le he b1 (b2.trans pz) b3 tk1⟩;have IU:=kp b o hb;have lb:=bu IU;rw [sortedHeap_old (bE lb) (by rw [j6];exact pZ lb)];exact bH _ IU
end
def El (zs:List Str):List Str:=ip (λi=>zs.getD i "") zs.length
theorem yu (val:Nat->Str)(z:Str):∀n,z∈ip val n↔∃i,i < n/\val i=z
 | 0=>⟨λh=>(by cases h),λ⟨i,h,_⟩=>absurd h (rj _)⟩
 | n+1=>by
  have ih:=yu val z n;show z∈(if val n∈ip val n then ip val n else ip val n++[val n])↔_;have key:z∈(if val n∈ip val n then ip val n else ip val n++[val n])↔z∈ip val n\/z=val n:=by
   by_cases c:val n∈ip val n
   .rw [ax c];exact⟨.inl,λh=>h.elim id λe=>e ▸ c⟩
   rw [aw c,cq,bC]
  rw [key,ih];constructor
  .rintro(⟨i,h,e⟩ | e)
   .exact⟨i,pZ h,e⟩
   exact⟨n,j8 _,e.symm⟩
  rintro⟨i,h,e⟩;by_cases c:i < n
  .exact .inl ⟨i,c,e⟩
  have:i=n:=by omega
  exact .inr (by rw [<-e,this])
def Ib (zs:List Str)(z:Str):z∈El zs↔z∈zs:=by
 unfold El;rw [yu];constructor
 .rintro⟨i,h,e⟩;rw [nu,b_ h] at e;rw [<-e];exact pY h
 intro h;obtain⟨i,hi⟩:=ix h;exact⟨i,(bj.mp hi).1,by rw [nu,hi];rfl⟩
def yO (zs:List Str):(El zs).length<=zs.length:=sJ _ _
def tSS (K:a8)(te:TE):TE:=λσ H Q=>te σ H λx H1=>∃a zs,x=.ref a/\aG K H1 a (List.map V.str zs)/\zs.length < 64/\∀l E_,H1 l=none->E_.Perm (El zs)->sortedS E_=true->Q (.ref l) (upd H1 l (.lst (List.map V.str E_)))
theorem BH:∀{aN:List Value}{zs:List Str},StrsAre aN zs->∀(i:Nat)(v:Value),aN[i]?=some v->∃t,v=Value.str (zs.getD i "") t
 | _,_,.nil,i,v,h=>by cases h
 | _,_,.cons z t r,0,v,h=>by cases h;exact⟨t,rfl⟩
 | _,_,.cons z t r,i+1,v,h=>BH r i v h
def EC:bootBuiltins "set"=some (.type "set"):=by decide +kernel
theorem Inv.drawn {X:Cx}{ag:List (Addr×Obj)}{σ:List (Option V)}{H:Hp}{s:Shared}(d:Drawn)(I:Inv X ag σ H s):Inv X ag σ H { s with drawn:=d }:=⟨I.ok,I.os,I.bare,I.base,I.loc,I.cell,I.free,I.lF,I.pin,I.bZ,I.len⟩
def wG {X:Cx}{e:Expr}{te:TE}{p1 p2 q1 q2:Pos}(hc:X.calm=true)(hg:Gl X "sorted")(hm:X.mg "sorted"=none)(Rr:Gl X "set")(Rm:X.mg "set"=none)(he:PE X e te)
  (h1:starEach [.Call (.Name "set" p2) [e] [] q2] X.env=(false,eval (.Call (.Name "set" p2) [e] [] q2) X.env)::starEach [] X.env:=by rfl)(h2:starEach [e] X.env=(false,eval e X.env)::starEach [] X.env:=by rfl) :
  PE X (.Call (.Name "sorted" p1) [.Call (.Name "set" p2) [e] [] q2] [] q1) (tSS X.K te):=by
 intro ag s σ H Q I h;have hh:=I.ok.hd hc;refine nq (iQ I hg hm boot_sorted ?_);refine PyProof.Rows.callWith_builtin1 ?_ h1 rfl;rw [h1];show wpAny _ _ (spliced ((false,eval (.Call (.Name "set" p2) [e] [] q2) X.env)::backTo q1 (starEach [] X.env))) _ _ s;refine p_ ?_;refine nq (iQ I Rr Rm EC ?_);refine xD ?_ h2 rfl;rw [h2];show wpAny _ _ (spliced ((false,eval e X.env)::backTo q2 (starEach [] X.env))) _ _ s;refine p_ (cX (he ag s σ H _ I h) λu s1 bx=>?_);obtain⟨x,H1,I1,r1,q1⟩:=bx;obtain⟨a,zs,rfl,hq,Xs,q1⟩:=q1;cases (show u=Value.ref a from r1);refine oX ?_;obtain⟨aN,rv,pl,hz⟩:=I1.list hq;have sa:=xM rv;have br:=rv.length;rw [av] at br;refine xl (val:=λi=>zs.getD i "") hh pl.isList (λi v hv=>?_) (by simp only [bO];unfold scanBound;omega) λh' tk T kp=>?_
 .have Z1:aN[i]?=some v:=by rw [List.getElem?_toArray] at hv;exact hv
  exact BH sa i v Z1
 refine oX ?_;have eds:ip (λi=>zs.getD i "") aN.toArray.size=El zs:=by unfold El;simp only [bO];rw [<-br]
 rw [eds] at T;have Tu:=yO zs;refine zS hh T ∅ λh2 d tk2 l ee out ss DF ZH Rx b1 b2 b3 tk3=>?_;have Wf:∀b u,s1.heap.get? b=some u->h2.get? b=some u:=λb u hb=>DF b u (kp b u (bu hb) hb);have v:=uy b1;have lss:ss.length<=zs.length:=by rw [b2.length_eq];exact Tu
 have ZG:s1.heap.objs.size<=l:=by
  obtain⟨oT,_,_,_,hoT,_⟩:=T;exact dI (i8 (bu hoT)) ZH
 refine⟨.ref l,_,(I1.laid (t':=tk2) Wf ZG (show cM X.prog X.w _ _ _ (.lst (List.map V.str ss)) from ⟨?_,out.toList,ee,v,?_⟩)).drawn d,rfl,q1 _ ss (I1.bZ.fresh ZG) b2 b3⟩
 .rw [av];rw [av] at hz;omega
 rw [Rx]
end L2
namespace gT
open PySem L2 M11
abbrev MH:Stmt:=top 60
def Ah (rs:List Addr):∀v∈rs.map V.ref,tW v:=λv hv=>by
 obtain⟨a,_,rfl⟩:=cy.mp hv;exact .inr ⟨a,rfl⟩
theorem qg {F:V->V->Prop}:∀(xs:List V),(∀x∈xs,F x x)->Paired F xs xs
 | [],_=>.nil
 | x::xs,h=>.cons (h x cJ) (qg xs λy hy=>h y (cW _ hy))
def Es (a:Addr)(l:List Addr):gq ((a::l).map V.ref) (some 1) none=l.map V.ref:=by
 unfold gq;rw [show (some (1:Int))=some ((1:Nat):Int) from rfl,HT.qK];show ((V.ref a::l.map V.ref).drop (min 1 (l.map V.ref).length.succ)).take _=_;have:min 1 (l.map V.ref).length.succ=1:=by omega
 rw [this];exact qX (by show (l.map V.ref).length<=((a::l).map V.ref).length - _;rw [show ((a::l).map V.ref).length=(l.map V.ref).length+1 from rfl];omega)
def yi {o:Option Tr}{A:Prop}{B:Tr->V->Prop}{C:Tr->V->Prop}(e:o=none)(q:A):(o=none->A)/\∀t v,o=some t->B t v->C t v:=⟨λ_=>q,λt v e2 _=>by rw [e] at e2;cases e2⟩
def Qs {o:Option Tr}{t0:Tr}{A:Prop}{B:Tr->V->Prop}{C:Tr->V->Prop}(e:o=some t0)(q:∀v,B t0 v->C t0 v):(o=none->A)/\∀t v,o=some t->B t v->C t v:=⟨λe2=>(by rw [e] at e2;cases e2),λt v e2 b=>by rw [e] at e2;cases e2;exact q v b⟩
def F2 {aa:List au}(ds:List Dd):resT aa (ds.map De.d)=none:=by
 unfold resT;cases e:(ds.map De.d).getLast? with
 | none=>rfl
 | some d =>
  obtain⟨x,_,rfl⟩:=cy.mp (List.mem_of_getLast? e);rfl
def C9 {aa:List au}(es:List De):resT aa ((es++[.dn])++[.dn])=none:=by
 unfold resT;rw [rF,rJ,pb];show Eg (fP (mV aa) (es++[.dn]) [])=none;rw [jm];cases fP (mV aa) es [] with
 | none=>rfl
 | some p=>rfl
def Ot {aa:List au}{p q p1 q1:List Tr}{d:De}(h1:mV aa p d=some p1)(h2:mV aa q d=some q1):p1.length+q.length=q1.length+p.length:=by
 cases d with
 | d x =>
  cases x with
  | step z =>
   have h1:(if z∈hd aa then none else some (p++[Tr.w z]))=some p1:=h1;have h2:(if z∈hd aa then none else some (q++[Tr.w z]))=some q1:=h2;by_cases c:z∈hd aa
   .rw [ax c] at h1;cases h1
   rw [aw c] at h1 h2;cases h1;cases h2;rw [bp,bp];omega
  | make k =>
   obtain⟨ru,er,le,_,rfl⟩:=jR (show ic aa k p=some p1 from h1);obtain⟨IJ,Kn,ZH,_,rfl⟩:=jR (show ic aa k q=some q1 from h2);rw [er] at Kn;cases Kn;rw [bp,bp,dD,dD,d_,d_];omega
 | si n=>cases h1
 | no=>cases h1
 | dn=>cases h1
theorem B5 {aa:List au}:∀(ds:List De){p q p1 q1:List Tr},fP (mV aa) ds p=some p1->fP (mV aa) ds q=some q1->p1.length+q.length=q1.length+p.length
 | [],p,q,p1,q1,h1,h2=>by cases h1;cases h2;exact Nat.add_comm _ _
 | d::r,p,q,p1,q1,h1,h2=>by
  have h1:(mV aa p d).bind (fP (mV aa) r)=some p1:=h1;have h2:(mV aa q d).bind (fP (mV aa) r)=some q1:=h2;cases e1:mV aa p d with
  | none=>rw [e1] at h1;cases h1
  | some p2 =>
   cases e2:mV aa q d with
   | none=>rw [e2] at h2;cases h2
   | some q2 =>
    rw [e1] at h1;rw [e2] at h2;have:=Ot e1 e2;have:=B5 r h1 h2;omega
def F1 {aa:List au}{t:Tr}{x z:Str}{r:List Dd}(h:Is aa t x)(e:iU t=.step z::r):resT aa (r.map De.d++[.dn])=none:=by
 have h1:=wC t x [] h;rw [e] at h1;have h1:(if z∈hd aa then none else some ([]++[Tr.w z])).bind (fP (mV aa) (r.map De.d))=some ([]++[t]):=h1;unfold resT;rw [rF,rJ,pb];show Eg (fP (mV aa) (r.map De.d) [])=none;by_cases c:z∈hd aa
 .rw [ax c] at h1;cases h1
 rw [aw c] at h1;cases h2:fP (mV aa) (r.map De.d) [] with
 | none=>rfl
 | some q1 =>
  have hl:=B5 (r.map De.d) h1 h2;have:q1=[]:=rK.mp (by simp only [bp,d_,iX] at hl;omega);rw [this];rfl
def Eo {k:Nat}{cs:gW}:∃d r,iU (.n k cs)=d::r:=by
 rw [Cy];cases jw cs with
 | nil=>exact⟨_,_,rfl⟩
 | cons d r=>exact⟨_,_,rfl⟩
section
def BQ (K:a8)(T1 T2 T3:Addr):Sp:=λvs H Q _=>∃(a:Addr)(ns:List Int),vs=[.ref a]/\aG K H a (ns.map V.int)/\ns.length<=63/\CI T1 T2 T3 H/\∀H',Q (.bl true) H'
def r_:aI ["_law_script","_law_rules","_law_names_here","_law_k","_law_tree_here","_law_deeds_here","_law_handed"] ["_law_script"] (ay MH):=iT rfl rfl rfl rfl nofun
def M_ {Cg C T1 T2 T3 fG:Addr}{fdG:FuncData}(F:iz K "law" "law" MH f fd)(T:Txt mg)(hSo:mg "sorted"=none)(hSe:mg "set"=none)
  (GG:aE P w K mg base 11 "_law_grammar" ["_law_script","_law_at"] (Fs K))(GDT:aE P w K mg base 11 "_law_drawn_tree" ["_law_rules","_law_name","_law_cells"] (xT K))(GDL:aE P w K mg base 11 "_law_deeds" ["_law_tree_here"] (nK K 10))
  (GI:aE P w K mg base 11 "_law_is" ["_law_answer","_law_tree_here"] (Mw K 10))(Pq:aE P w K mg base 11 "tree_of" ["rules","deeds"] (xQ K))
  (G:GC K Cg)(MG:Mk K Cg fG)(FG:bR P w K mg base fY 10 fG fdG ["self","rules","strengths"] (BS K Cg C T1 T2 T3))(B1:Binds K fdG ["self","rules","strengths"] [.none])(mG:mg "Grammar"=some (.ref Cg)):bR P w K mg base fY 12 f fd ["_law_script"] (BQ K T1 T2 T3):=by
 refine F.ok r_ (λvs H Q E h=>?_) (λeK A outer s H vs Q E hr h=>?_)
 .obtain⟨a,ns,rfl,_⟩:=h;rfl
 obtain⟨S,ns,rfl,hS,hl,hT,q⟩:=h;have Q4:=PB (n:=1+1) hr nofun;refine⟨_,aj (aC (i:=1) r_.nd rfl (bB rfl) (e_ (wH (dvs:=[.eV]) MG FG hr rfl mG B1 (.cons rfl .nil) uL (ab (bc GG hr rfl (ab (pv 0) (ab ar ah))) ah)) rfl))
  (aj (aC (i:=2) r_.nd rfl (bB rfl) (wG rfl rfl hSo rfl hSe (ba ["_law_head","_law_parts"] [] rfl (aX (pv 1)) (a9 rfl rfl) nofun rfl nofun
   (λ_ _ _ _ _=>ff (n:=2) K rfl (aA (ao (i:=0) (show (["_law_head","_law_parts"]:List Str).Nodup by decide +kernel) rfl (bB rfl)) (aA (ao (i:=1) (show (["_law_head","_law_parts"]:List Str).Nodup by decide +kernel) rfl (bB rfl)) bV))) (λ_ _ _ _ _=>bQ) (λ_ _ _ _ _=>pv 0))))
  (aj (bK b9 rfl (gy rfl T.C8 (ab (aF aK rfl T.len dJ (ab (pv 2) ah)) ah)) (ao (i:=3) r_.nd rfl (bB rfl))
   (aj (aC (i:=4) r_.nd rfl (bB rfl) (bc GDT hr rfl (ab (pv 1) (ab (aP bT (pv 2) (pv 3) (λ_ _=>rfl)) (ab (fJ jH (pv 0) (fc (aZ fZ ar (aZ Ar ar (pv 3)))) (fc (aZ fZ ar (aZ Ar ar (pv 3))))) ah)))))
   (aj (aC (i:=5) r_.nd rfl (bB rfl) (aZ jP (bc GDL hr rfl (ab (pv 4) ah)) (bA (ab (bS (ab cD ah)) ah))))
   (aj (aC (i:=6) r_.nd rfl (bB rfl) (aV cZ rfl T.lst dZ (ab (pv 5) ah)))
   (aj (bU (PW.pt (kZ (iM (dG (bc GI hr rfl (ab (bc Pq hr rfl (ab (aV cZ rfl T.lst dZ (ab (pv 1) ah)) (ab (pv 6) ah))) (ab (pv 4) ah))))) (jK (bw (Aq 1 Q4) (pv 6) (pv 5) (bW _))))) (ak (aQ dW)) aS)
   (aj (bU (PW.pt (kZ (dH (wI (bc Pq hr rfl (ab (aV cZ rfl T.lst dZ (ab (pv 1) ah)) (ab (fJ jH (pv 5) hJ (fc (l7 ja ar))) ah))))) (jK (dH (wI (bc Pq hr rfl (ab (aV cZ rfl T.lst dZ (ab (pv 1) ah)) (ab (aZ jP (pv 5) (bA (ab (bS (ab cD ah)) ah))) ah)))))))) (ak (aQ dW)) aS)
   (ak (bU (PW.pt (jb (bw yh (aF aK rfl T.len dJ (ab (pv 5) ah)) ar (bW _)) (jb (bw iO (aP bq (aP bT (pv 5) ar (λ_ _=>rfl)) ar (λ_ _=>rfl)) cD (bW _)) (iA (dH (wI (bc Pq hr rfl (ab (aV cZ rfl T.lst dZ (ab (pv 1) ah)) (ab (fJ jH (pv 5) (fc ar) hJ) ah))))))))) (ak (aQ dW)) aS))))))))
  (ak (aQ (jN (sG (Ao (bc Pq hr rfl (ab (aV cZ rfl T.lst dZ (ab (pv 1) ah)) (ab (bA ah) ah))))) (jM (sG (Ao (bc Pq hr rfl (ab (aV cZ rfl T.lst dZ (ab (pv 1) ah)) (ab (bA (ab (bS (ab cD ah)) ah)) ah))))))))))),?_⟩
 nofun
 refine⟨_,rfl,S,ns,0,rfl,hS,∅,λc R0 rs aa H1 hc f0 s1 eR0 Vr go=>?_⟩;obtain⟨rk,bb,gd⟩:=go.good;have six:=go.six;have one:=go.one;have h3:∀ru∈aa,ru.2.length<=3:=λru h=>(go.ins ru h).2.1;have h8:∀ru∈aa,ru.2.length<=8:=λru h=>by have:=h3 ru h;omega
 have EX:aa≠[]:=λz=>by rw [z] at one;cases one
 have t1:=hT.same s1;intro g x hg hx nx;refine⟨H1,g,x,R0,.eV,rs,[],aa,[],rk,bb,rfl,(af hx _).trans (af (by rw [ai nx.symm];exact hg) _),hg,ae,aG.of eR0,Vr,∅,h8,EX,.inl ⟨rfl,rfl,rfl⟩,by simp,λru h=>(by cases h),by simp,gd,t1,λbt H2 s2 t2 gv=>⟨rfl,?_⟩⟩;have k2:=Kp.of3 s2 t1;clear s2 t2;obtain⟨gx,fs,R,S2,eg,lr,_,_,_,eR,_,_,_⟩:=gv;refine⟨g,Cg,gx,fs,_,rfl,eg,G.cls,G.a1,lr,?_⟩;have Te:=k2.aa Vr;have DT:=k2.seq (s1.seq hS);have ll:=a_ Te;have TC:∀z∈hm aa,z∈dq c:=λz hz=>by
  obtain⟨ru,iS,rfl⟩:=cy.mp hz;exact(go.ins ru iS).1
 have lhm:(hm aa).length=aa.length:=av _;refine⟨_,rfl,R,rfl,⟨_,aG.of eR⟩,λN0 hN0=>jV (aG.of eR) Te ∅ hN0 λH3 s3 eN0=>?_⟩;refine⟨N0,hm aa,rfl,aG.of eN0,∅,λN zs hN pz _=>?_⟩;have k4:=af hN (.lst (zs.map V.str));have eN:upd H3 N (.lst (zs.map V.str)) N=some (.lst (zs.map V.str)):=ae;generalize upd H3 N (.lst (zs.map V.str))=H4 at k4 eN;have CW:=s3.trans k4;have inZ:∀z∈zs,z∈hm aa:=λz hz=>(Ib _ z).mp (pz.mem_iff.mp hz);have lz:zs.length<=6:=by
  have:=pz.length_eq;have:=yO (hm aa);omega
 have Oj:=CW _ _ eR;have EN:=Te.same CW;have hS4:=CW.seq DT;clear eN0 eR0 Vr DT Te eg lr;refine⟨_,rfl,N,_,rfl,.inl (aG.of eN),_,rfl,by rw [av];omega,by rw [av];omega,?_⟩;rw [av,gJ];refine g_ (n:=zs.length) (λi σ H8=>∃(y3 y4 y5 y6:Option V),σ=[aM S,aM R,aM N,y3,y4,y5,y6]/\aB H4 H8) ⟨none,none,none,none,rfl,aB.refl _⟩ ?_ ?_
 .intro i σ H8 hi lD
  ac_nf0
  obtain⟨y3,y4,y5,y6,rfl,s8⟩:=lD;obtain⟨z0,RR⟩:∃z0,zs[i]?=some z0:=⟨zs[i]'hi,b_ hi⟩;have Wq:=inZ z0 (b8 RR);have ZU:z0∈hd aa:=me.mp Wq;have ati:lS (zs.map V.str) (0+(i:Int))=some (.str z0):=by
   rw [jZ];exact cf (by rw [bo,RR];rfl)
  refine goN ?_
  ac_rfl
  refine⟨_,rfl,_,rfl,_,rfl,N,_,_,_,rfl,rfl,aG.of (s8 _ _ eN),ati,_,rfl,?_⟩;refine⟨_,rfl,_,_,rfl,rfl,.inl ⟨nofun,nofun⟩,_,_,rfl,rfl,_,rfl,_,rfl,_,_,rfl,rfl,.inl ⟨nofun,nofun⟩,_,_,rfl,rfl,_,rfl,S,_,rfl,s8.seq hS4,λC3 NY=>?_⟩;obtain⟨cs,ecs,_,lcs⟩:=Ig ns (some (8+9 * (0+(i:Int)))) (some (20+9 * (0+(i:Int))));rw [ecs];have k3:=af NY (.lst (cs.map V.int));have Om:upd H8 C3 (.lst (cs.map V.int)) C3=some (.lst (cs.map V.int)):=ae;generalize upd H8 C3 (.lst (cs.map V.int))=H9 at k3 Om;have s9:=s8.trans k3;refine⟨R,C3,rs,aa,dq c,cs,z0,rfl,s9 _ _ Oj,EN.same s9,∅,h3,(sW c).2,TC,go.en,aG.of Om,∅,Wq,λv t zD uh tv ok aaf=>?_⟩;have dt:=ok.deep;have st:sz t<=29524:=dI ok.size nofun;refine⟨_,rfl,v,t,rfl,tv,∅,∅,λD0 as zg f11 FP eD0 pd=>?_⟩;have lad:=a_ pd;have Tu:=oG t;refine⟨xE,λa0 ha0=>⟨xE,λL1 hL1=>?_⟩⟩;have k6:=(af ha0 (.tup [V.str "done"])).trans (af hL1 (.lst [V.ref a0]));have I_:upd (upd zg a0 (.tup [V.str "done"])) L1 (.lst [V.ref a0]) a0=some (.tup [.str "done"]):=(af hL1 _) _ _ ae;have HY:upd (upd zg a0 (.tup [V.str "done"])) L1 (.lst [V.ref a0]) L1=some (.lst [V.ref a0]):=ae;generalize upd (upd zg a0 (.tup [V.str "done"])) L1 (.lst [V.ref a0])=vp at k6 I_ HY;refine⟨D0,L1,_,_,rfl,rfl,k6 _ _ eD0,HY,fits (by rw [av];show _+1<=1000000;omega),λD hD=>?_⟩;have k7:=af hD (.lst (as.map V.ref++[V.ref a0]));have Kt:upd vp D (.lst (as.map V.ref++[V.ref a0])) D=some (.lst ((as++[a0]).map V.ref)):=by rw [ae,bG];rfl
  generalize upd vp D (.lst (as.map V.ref++[V.ref a0]))=uc at k7 Kt;have ZM:=k6.trans k7;have MN:=FP.trans ZM;have JA:=s9.trans (uh.trans MN);have Ky:Bs aa.length uc as ((iU t).map De.d):=cu pd λ_ _ z=>ZM _ _ z;have SS:uc a0=some (.tup [.str "done"]):=k7 _ _ I_;have own:=F3 ok.is ZU;have tv7:=gH.keep (λ_ _ z=>MN.tup z) t tv;have Us:=Ou ok.is;obtain⟨_,⟨k0,xy,et⟩,_⟩:True/\(∃k0 xy,t=.n k0 xy)/\True:=by
   cases t with
   | w z=>have hi:=ok.is;unfold Is at hi;exact absurd (hi.1 ▸ ZU) hi.2
   | n k0 xy=>exact⟨trivial,⟨_,_,rfl⟩,trivial⟩
  clear HY I_ eD0 k6 k7 Om tv pd;have lz2:(iU t).length<=29524:=by rw [Tu];exact st
  have lmp:((iU t).map De.d).length=(iU t).length:=av _;have aah:=a_ Ky;refine⟨_,rfl,D,_,rfl,.inl (aG.of Kt),λHd hHd=>?_⟩;have Wj:=af hHd (.lst ((as++[a0]).map V.ref));have Ol:upd uc Hd (.lst ((as++[a0]).map V.ref)) Hd=some (.lst ((as++[a0]).map V.ref)):=ae;generalize upd uc Hd (.lst ((as++[a0]).map V.ref))=UD at Wj Ol;refine⟨_,rfl,R,_,rfl,.inl (aG.of ((JA.trans Wj) _ _ Oj)),λRA Xg=>?_⟩;have kA:=af Xg (.lst (rs.map V.ref));have eA:upd UD RA (.lst (rs.map V.ref)) RA=some (.lst (rs.map V.ref)):=ae;generalize upd UD RA (.lst (rs.map V.ref))=H15 at kA eA;have Wi:=Wj.trans kA;have Sh:∀H',aB uc H'->Bs aa.length H' (as++[a0]) ((iU t).map De.d++[.dn]):=λH' s=>cv (Ky.same s) (.cons (s _ _ SS) .nil);have Oq:∀d∈(iU t).map De.d++[De.dn],IG aa d:=λd h=>by
   rcases cq.mp h with y | y
   .exact Us d y
   rw [bC.mp y];exact trivial
  refine⟨_,rfl,RA,Hd,rs,as++[a0],aa,(iU t).map De.d++[.dn],rfl,eA,EN.same (JA.trans Wi),h8,∅,aG.of (kA _ _ Ol),Sh _ Wi,Oq,by rw [bp,d_];omega,λH16 Zb=>Qs own λv2 OJ=>?_⟩;have ZP:=Wi.trans Zb;refine⟨_,rfl,v2,v,t,rfl,OJ,gH.keep (λ_ _ z=>ZP.tup z) t tv7,∅,∅,λH17 Za=>?_⟩;have Tz:=ZP.trans Za;refine⟨true,rfl,?_⟩;refine du ?_;refine⟨_,rfl,_,rfl,Hd,D,_,_,rfl,rfl,aG.of ((kA.trans (Zb.trans Za)) _ _ Ol),aG.of (Tz _ _ Kt),qg _ λx hx=>Pr.self (Ah _ x hx) 1,false,rfl,?_⟩;refine du ?_;have Vm:=JA.trans Tz;refine⟨_,rfl,R,_,rfl,.inl (aG.of (Vm _ _ Oj)),λRB Xf=>?_⟩;have kB:=af Xf (.lst (rs.map V.ref));have eB:upd H17 RB (.lst (rs.map V.ref)) RB=some (.lst (rs.map V.ref)):=ae;generalize upd H17 RB (.lst (rs.map V.ref))=H18 at kB eB;refine⟨_,rfl,_,rfl,_,rfl,D,_,rfl,aG.of (kB _ _ (Tz _ _ Kt)),λC4 hC4=>?_⟩;rw [u7];have kC:=af hC4 (.lst (as.map V.ref));have eC:upd H18 C4 (.lst (as.map V.ref)) C4=some (.lst (as.map V.ref)):=ae;generalize upd H18 C4 (.lst (as.map V.ref))=H19 at kC eC;have Wh:=Tz.trans (kB.trans kC);refine⟨RB,C4,rs,as,aa,(iU t).map De.d,rfl,kC _ _ eB,EN.same (JA.trans Wh),h8,∅,aG.of eC,Ky.same Wh,Us,∅,λH20 s20=>yi (F2 _) ?_⟩;have ZO:=Wh.trans s20;refine⟨false,rfl,?_⟩;refine du ?_;refine⟨_,rfl,R,_,rfl,.inl (aG.of ((JA.trans ZO) _ _ Oj)),λRC hRC=>?_⟩;have kD:=af hRC (.lst (rs.map V.ref));have eRC:upd H20 RC (.lst (rs.map V.ref)) RC=some (.lst (rs.map V.ref)):=ae;generalize upd H20 RC (.lst (rs.map V.ref))=YJ at kD eRC;refine⟨_,rfl,xE,λa1 EZ=>⟨xE,λL2 DU=>?_⟩⟩;have kE:=(af EZ (.tup [V.str "done"])).trans (af DU (.lst [V.ref a1]));have Ks:upd (upd YJ a1 (.tup [V.str "done"])) L2 (.lst [V.ref a1]) a1=some (.tup [.str "done"]):=(af DU _) _ _ ae;have Sd:upd (upd YJ a1 (.tup [V.str "done"])) L2 (.lst [V.ref a1]) L2=some (.lst [V.ref a1]):=ae;generalize upd (upd YJ a1 (.tup [V.str "done"])) L2 (.lst [V.ref a1])=H22 at kE Ks Sd;have ZN:=ZO.trans (kD.trans kE);refine⟨D,L2,_,_,rfl,rfl,ZN _ _ Kt,Sd,fits (by rw [av,bp];show _+1+1<=1000000;omega),λD5 Lz=>?_⟩;have kF:=af Lz (.lst ((as++[a0]).map V.ref++[V.ref a1]));have Pa:upd H22 D5 (.lst ((as++[a0]).map V.ref++[V.ref a1])) D5=some (.lst ((as++[a0]++[a1]).map V.ref)):=by rw [ae,bG (l₁:=as++[a0])];rfl
  generalize upd H22 D5 (.lst ((as++[a0]).map V.ref++[V.ref a1]))=H23 at kF Pa;have Wg:=ZN.trans kF;have dv1:E9 aa.length H23 a1 .dn:=kF _ _ Ks;refine⟨RC,D5,rs,as++[a0]++[a1],aa,(iU t).map De.d++[.dn]++[.dn],rfl,kF _ _ (kE _ _ eRC),EN.same (JA.trans Wg),h8,∅,aG.of Pa,cv (Sh _ Wg) (.cons dv1 .nil),(λd h=>?_),by rw [bp,bp,d_];omega,λH24 CW=>yi (C9 _) ?_⟩
  .rcases cq.mp h with y | y
   .exact Oq d y
   rw [bC.mp y];exact trivial
  refine⟨false,rfl,?_⟩;refine du ?_;have Lo:=Wg.trans CW;have Vl:=JA.trans Lo;refine⟨_,rfl,D,_,rfl,.inl (aG.of (Lo _ _ Kt)),_,_,rfl,rfl,_,rfl,?_⟩;refine cE (λc1=>?_) (λc1=>?_)
  .obtain⟨d0,r,R9⟩:=Eo (k:=k0) (cs:=xy);rw [<-et] at R9;have Kx:=Ky;rw [R9] at Kx;cases as with
   | nil=>cases Kx
   | cons b0 bs =>
   have YV:uc b0=some (.tup (Ut d0)):=by cases Kx with | cons h _=>exact h
   have X5:Bs aa.length uc bs (r.map De.d):=by cases Kx with | cons _ h=>exact h
   have vk:lS ((b0::bs++[a0]).map V.ref) 0=some (.ref b0):=cf (j:=0) rfl;cases d0 with
   | make kk =>
    refine⟨_,rfl,D,_,_,_,rfl,rfl,aG.of (Lo _ _ Kt),vk,b0,_,_,_,rfl,rfl,aR.of (Lo _ _ YV),rfl,rfl,false,?_,?_⟩
    .show V.bl (decide (_=_))=_;rw [cV nofun]
    refine du ?_;refine du ?_;exact⟨_,_,_,_,rfl,Vl⟩
   | step z =>
    refine⟨_,rfl,D,_,_,_,rfl,rfl,aG.of (Lo _ _ Kt),vk,b0,_,_,_,rfl,rfl,aR.of (Lo _ _ YV),rfl,rfl,true,?_,?_⟩
    .show V.bl (decide (_=_))=_;rw [bN rfl]
    refine g9 ?_;refine⟨_,rfl,R,_,rfl,.inl (aG.of (Vl _ _ Oj)),λRD hRD=>?_⟩;have kG:=af hRD (.lst (rs.map V.ref));have eRD:upd H24 RD (.lst (rs.map V.ref)) RD=some (.lst (rs.map V.ref)):=ae;generalize upd H24 RD (.lst (rs.map V.ref))=H25 at kG eRD;refine⟨_,rfl,_,rfl,D,_,rfl,aG.of (kG _ _ (Lo _ _ Kt)),λC6 RL=>?_⟩;rw [show b0::bs++[a0]=b0::(bs++[a0]) from rfl,Es];have kI:=af RL (.lst ((bs++[a0]).map V.ref));have Sf:upd H25 C6 (.lst ((bs++[a0]).map V.ref)) C6=some (.lst ((bs++[a0]).map V.ref)):=ae;generalize upd H25 C6 (.lst ((bs++[a0]).map V.ref))=H26 at kI Sf;have Tx:=Lo.trans (kG.trans kI);have dv0:E9 aa.length H26 a0 .dn:=Tx _ _ SS;have lr:r.length+1=(iU t).length:=by rw [R9];rfl
    refine⟨RD,C6,rs,bs++[a0],aa,r.map De.d++[.dn],rfl,kI _ _ eRD,EN.same (JA.trans Tx),h8,∅,aG.of Sf,cv (X5.same Tx) (.cons dv0 .nil),(λd h=>Oq d ?_),by rw [bp,av,d_];omega,λH27 Qd=>yi (F1 ok.is R9) ?_⟩
    .rw [R9];exact cW _ h
    refine⟨false,rfl,?_⟩;refine du ?_;exact⟨_,_,_,_,rfl,JA.trans (Tx.trans Qd)⟩
  refine du ?_;exact⟨_,_,_,_,rfl,Vl⟩
 rintro σ H8 ⟨y3,y4,y5,y6,rfl,s8⟩;refine⟨_,rfl,R,_,rfl,.inl (aG.of (s8 _ _ Oj)),λRA Xg=>?_⟩;have kA:=af Xg (.lst (rs.map V.ref));have eA:upd H8 RA (.lst (rs.map V.ref)) RA=some (.lst (rs.map V.ref)):=ae;generalize upd H8 RA (.lst (rs.map V.ref))=HA at kA eA;refine⟨rM,λL0 hL0=>?_⟩;have kB:=af hL0 (.lst []);have eB:upd HA L0 (.lst []) L0=some (.lst []):=ae;generalize upd HA L0 (.lst [])=HB at kB eB;have Vn:=s8.trans (kA.trans kB);refine⟨RA,L0,rs,[],aa,[],rfl,kB _ _ eA,EN.same Vn,h8,∅,aG.of eB,.nil,(λd h=>by cases h),nofun,λHC sC=>yi rfl ?_⟩;refine⟨true,rfl,?_⟩;refine g9 ?_;refine⟨_,rfl,R,_,rfl,.inl (aG.of ((Vn.trans sC) _ _ Oj)),λRB Xf=>?_⟩;have kC:=af Xf (.lst (rs.map V.ref));have eRB:upd HC RB (.lst (rs.map V.ref)) RB=some (.lst (rs.map V.ref)):=ae;generalize upd HC RB (.lst (rs.map V.ref))=HD at kC eRB;refine⟨xE,λa1 EZ=>⟨xE,λL2 DU=>?_⟩⟩;have kE:=(af EZ (.tup [V.str "done"])).trans (af DU (.lst [V.ref a1]));have Ks:upd (upd HD a1 (.tup [V.str "done"])) L2 (.lst [V.ref a1]) a1=some (.tup [.str "done"]):=(af DU _) _ _ ae;have Sd:upd (upd HD a1 (.tup [V.str "done"])) L2 (.lst [V.ref a1]) L2=some (.lst [V.ref a1]):=ae;generalize upd (upd HD a1 (.tup [V.str "done"])) L2 (.lst [V.ref a1])=HE at kE Ks Sd;have Vm:=Vn.trans (sC.trans (kC.trans kE));refine⟨RB,L2,rs,[a1],aa,[.dn],rfl,kE _ _ eRB,EN.same Vm,h8,∅,aG.of Sd,.cons Ks .nil,(λd h=>by rw [bC.mp h];exact trivial),nofun,λHF sF=>yi rfl ?_⟩;exact q _
end
end gT
namespace L2
open PySem
def xH {C:List Value->Prop}(h:∀a,C [a]):∀us:List Value,us.length=1->C us
 | [a],_=>h a
def CM {C:List Value->Prop}(h:∀a b,C [a,b]):∀us:List Value,us.length=2->C us
 | [a,b],_=>h a b
def Jo {C:List Value->Prop}(h:∀a b c,C [a,b,c]):∀us:List Value,us.length=3->C us
 | [a,b,c],_=>h a b c
def SU {C:List Value->Prop}(h:∀a b c d,C [a,b,c,d]):∀us:List Value,us.length=4->C us
 | [a,b,c,d],_=>h a b c d
def YW {C:List Value->Prop}(h:∀a b c d e,C [a,b,c,d,e]):∀us:List Value,us.length=5->C us
 | [a,b,c,d,e],_=>h a b c d e
def d6 (K:a8)(x:Str)(st:Stmt):Prop:=∃(g:Addr)(oc:Value)(od an:Option Addr)(sl:Array (Option Value))(kV dc pm cd ct:Value),PySem.W.nsIn K mainGlobals x=some (some (.ref g)) /\
 K.lookup g=some ⟨oc,od,.func (PySem.W.fnOf x x (dB st) (cw st) (ay st) .none kV dc pm an cd ct),sl⟩/\PySem.W.codeIn K cd x=true/\PySem.W.keepIn K (.ref g)=true
def d6.get {K:a8}{h:Heap}{mg:Str->Option Value}{x:Str}{st:Stmt}(X:K.In h)(G:h.Ns mainGlobals mg)(H:d6 K x st):∃g gd,iz K x x st g gd/\mg x=some (.ref g):=by
 obtain⟨g,oc,od,an,sl,kV,dc,pm,cd,ct,a,l,c,k⟩:=H;exact⟨g,_,HK (st:=st) l c k,oR X G a⟩
def EJ (K:a8)(x:Str)(st:Stmt)(T:Addr):Prop:=∃(g:Addr)(oc:Value)(od an:Option Addr)(sl:Array (Option Value))(kV dc pm:Value)(c:Addr)(ct:Value),PySem.W.nsIn K mainGlobals x=some (some (.ref g)) /\
 K.lookup g=some ⟨oc,od,.func (PySem.W.fnOf x x (dB st) (cw st) (ay st) .none kV dc pm an (.ref c) ct),sl⟩/\PySem.W.codeIn K (.ref c) x=true/\PySem.W.codeHdIn K c T=true/\PySem.W.keepIn K (.ref g)=true
def EJ.get {K:a8}{h:Heap}{mg:Str->Option Value}{x:Str}{st:Stmt}{T:Addr}(X:K.In h)(G:h.Ns mainGlobals mg)(H:EJ K x st T):∃g gd,zh K x x st g gd T/\mg x=some (.ref g):=by
 obtain⟨g,oc,od,an,sl,kV,dc,pm,c,ct,a,l,d,e,k⟩:=H;exact⟨g,_,⟨⟨oc,od,kV,dc,pm,an,c,ct,sl,rfl,l,d,e⟩,k⟩,oR X G a⟩
def zh.binds {K:a8}{x qual:Str}{st:Stmt}{f T:Addr}{fd:FuncData}{ps:List Str}(F:zh K x qual st f fd T)
  (h:∀(kV doc pm:Value)(an:Option Addr)(eK ct:Value)(us:List Value),us.length=ps.length->bindArgs (PySem.W.fnOf x qual (dB st) (cw st) (ay st) .none kV doc pm an eK ct) ⟨us,[]⟩=pure (ps.zip us)):Binds K fd ps []:=by
 obtain⟨oc,od,kV,doc,pm,an,c,ct,wJ,rfl,lk,w6,_⟩:=F.ex;exact .all (h kV doc pm an (.ref c) ct)
def Br (K:a8)(C:Addr)(m qual:Str)(st:Stmt):Prop:=∃(g:Addr)(oc:Value)(od an:Option Addr)(sl:Array (Option Value))(kV dc pm cd ct:Value),PySem.W.findIn K (.ref C) m=some (some (.ref g)) /\
 K.lookup g=some ⟨oc,od,.func (PySem.W.fnOf m qual (dB st) (cw st) (ay st) .none kV dc pm an cd ct),sl⟩/\PySem.W.codeIn K cd qual=true/\PySem.W.keepIn K (.ref g)=true/\PySem.W.isFn K (.ref g)=true
def Br.get {K:a8}{C:Addr}{m qual:Str}{st:Stmt}(H:Br K C m qual st):∃g gd,iz K m qual st g gd/\Meth K C m g:=by
 obtain⟨g,oc,od,an,sl,kV,dc,pm,cd,ct,a,l,c,k,i⟩:=H;exact⟨g,_,HK (st:=st) l c k,⟨a,i,k⟩⟩
def d6.c {K:a8}{h:Heap}{mg:Str->Option Value}{x:Str}{st:Stmt}{P:Program}{w:World}{base:Heap}{k:Nat}{ps:List Str}{sp:Sp}(H:d6 K x st)(X:K.In h)(G:h.Ns mainGlobals mg)
  (b:∀(kV doc pm:Value)(an:Option Addr)(eK ct:Value)(us:List Value),us.length=ps.length->bindArgs (PySem.W.fnOf x x (dB st) (cw st) (ay st) .none kV doc pm an eK ct) ⟨us,[]⟩=pure (ps.zip us))
  (o:∀{f:Addr}{fd:FuncData},iz K x x st f fd->mg x=some (.ref f)->Binds K fd ps []->bR P w K mg base fY k f fd ps sp):aE P w K mg base k x ps sp:=by
 obtain⟨f,fd,F,m⟩:=H.get X G;have B:=F.binds b;exact⟨f,fd,o F m B,B,F.kp,m⟩
def hD {K:a8}{x:Str}{st:Stmt}(g c:Addr)(pm:Value)(h:(PySem.W.nsIn K mainGlobals x,K.lookup g,PySem.W.codeIn K (.ref c) x,PySem.W.keepIn K (.ref g))=(some (some (.ref g)),some ⟨.type "function",none,.func (PySem.W.fnOf x x (dB st) (cw st) (ay st) .none .none .none pm none (.ref c) .none),#[]⟩,true,true)):d6 K x st:=by
 simp only [q8] at h;exact⟨g,_,_,_,_,_,_,_,_,_,h.1,h.2.1,h.2.2.1,h.2.2.2⟩
def hC {K:a8}{x:Str}{st:Stmt}{T:Addr}(g c:Addr)(pm:Value)(h:(PySem.W.nsIn K mainGlobals x,K.lookup g,PySem.W.codeIn K (.ref c) x,PySem.W.codeHdIn K c T,PySem.W.keepIn K (.ref g))=(some (some (.ref g)),some ⟨.type "function",none,.func (PySem.W.fnOf x x (dB st) (cw st) (ay st) .none .none .none pm none (.ref c) .none),#[]⟩,true,true,true)):EJ K x st T:=by
 simp only [q8] at h;exact⟨g,_,_,_,_,_,_,_,c,_,h.1,h.2.1,h.2.2.1,h.2.2.2.1,h.2.2.2.2⟩
def hM {K:a8}{C:Addr}{m qual:Str}{st:Stmt}(g c:Addr)(pm:Value)(h:(PySem.W.findIn K (.ref C) m,K.lookup g,PySem.W.codeIn K (.ref c) qual,PySem.W.keepIn K (.ref g),PySem.W.isFn K (.ref g))=(some (some (.ref g)),some ⟨.type "function",none,.func (PySem.W.fnOf m qual (dB st) (cw st) (ay st) .none .none .none pm none (.ref c) .none),#[]⟩,true,true,true)):Br K C m qual st:=by
 simp only [q8] at h;exact⟨g,_,_,_,_,_,_,_,_,_,h.1,h.2.1,h.2.2.1,h.2.2.2.1,h.2.2.2.2⟩
end L2
namespace gT
open PySem L2 M11
def OG (K:a8)(C:Addr)(m qual:Str)(st:Stmt):Prop:=∃(g:Addr)(oc:Value)(od an:Option Addr)(sl:Array (Option Value))(kV dc pm cd ct:Value)(T:Addr)(o:Obj) (n:Nat),PySem.W.findIn K (.ref C) m=some (some (.ref g)) /\
 K.lookup g=some ⟨oc,od,.func (PySem.W.fnOf m qual (dB st) (cw st) (ay st) (.ref T) kV dc pm an cd ct),sl⟩/\PySem.W.codeIn K cd qual=true/\K.lookup T=some o/\o.data=.seq #[.none] n/\PySem.W.keepIn K (.ref g)=true/\PySem.W.isFn K (.ref g)=true
def OG.get {K:a8}{C:Addr}{m qual:Str}{st:Stmt}(H:OG K C m qual st):∃g gd,IE K m qual st g gd/\PySem.W.findIn K (.ref C) m=some (some (.ref g))/\PySem.W.isFn K (.ref g)=true:=by
 obtain⟨g,oc,od,an,sl,kV,dc,pm,cd,ct,T,o,n,a,l,c,t,d,k,i⟩:=H;exact⟨g,_,⟨⟨oc,od,kV,dc,pm,an,cd,ct,sl,T,o,n,rfl,l,c,t,d⟩,k⟩,a,i⟩
structure Top (K:a8)(C Cg C3 T1 T2 T3:Addr)(tm:Tok):Prop where
 nB:PySem.W.nsIn K mainGlobals "BeginTable"=some (some (.ref C))
 nG:PySem.W.nsIn K mainGlobals "Grammar"=some (some (.ref Cg))
 nL:PySem.W.nsIn K mainGlobals "LeastTrees"=some (some (.ref C3))
 nM:PySem.W.nsIn K mainGlobals "MOST_RULES"=some (some (.int 60 tm))
 UH:PySem.W.nsIn K mainGlobals "set"=some none
 Bt:PySem.W.nsIn K mainGlobals "sorted"=some none
 h0:d6 K "heads_of" z8
 h1:d6 K "numbers_by_name" FD
 h2:d6 K "standings_by_part" MD
 h3:d6 K "rule_size" pD
 h4:d6 K "empty_by_name" sq
 h5:d6 K "words_in" zW
 h6:d6 K "found_empties" su
 h7:d6 K "first_places" wk
 h8:d6 K "way_back" MC
 h9:d6 K "steps_with_like_rows" zZ
 h10:d6 K "find_loop" FH
 h11:d6 K "refuse_twice" zX
 h12:d6 K "names_met" ME
 h13:d6 K "_law_cell_at" FO
 h14:d6 K "_law_digits" wA
 Xu:d6 K "_law_names" z6
 h16:d6 K "_law_words" wc
 h17:d6 K "_law_more" FE
 h18:d6 K "_law_skeleton" FC
 h19:d6 K "_law_ended" z9
 h20:d6 K "_law_good" FK
 h21:d6 K "_law_grammar" FJ
 h22:d6 K "is_number_below" z_
 h23:d6 K "is_child" so
 h24:d6 K "do_step" wu
 h25:d6 K "do_make" wy
 h26:d6 K "do_deed" wz
 h27:d6 K "tree_of" wg
 h28:d6 K "_law_deeds" wB
 h29:d6 K "_law_least" wm
 h30:d6 K "_law_tree" zY
 h31:d6 K "_law_drawn_tree" wt
 h32:d6 K "_law_is" Vg
 WW:d6 K "law" MH
 WE:d6 K "settled_sizes" nW
 WM:d6 K "refuse_faults" wj
 hL:EJ K "least_sizes" sj T1
 hG:EJ K "greatest_empty_sizes" wo T2
 hLB:EJ K "least_by_part" nX T3
 mL1:Br K C3 "__init__" "LeastTrees.__init__" z7
 mB1:Br K C "__init__" "BeginTable.__init__" Ab
 mB2:Br K C "find_begins" "BeginTable.find_begins" FN
 mB3:Br K C "words_of_part" "BeginTable.words_of_part" z5
 mG1:OG K Cg "__init__" "Grammar.__init__" wq
 pgB:PySem.W.plainGet K C Str.empty=true
 hdB:PySem.W.hasDictIn K C=true
 poB:PySem.W.plainOver K C=true
 saB:PySem.W.findIn K (.ref C) "__setattr__"=some (some (.builtin "object.__setattr__"))
 mkB:PySem.W.makesIn K C=true
 Hc:PySem.W.keepIn K (.ref C)=true
 pgG:PySem.W.plainGet K Cg Str.empty=true
 hdG:PySem.W.hasDictIn K Cg=true
 poG:PySem.W.plainOver K Cg=true
 saG:PySem.W.findIn K (.ref Cg) "__setattr__"=some (some (.builtin "object.__setattr__"))
 mkG:PySem.W.makesIn K Cg=true
 kpG:PySem.W.keepIn K (.ref Cg)=true
 pgL:PySem.W.plainGet K C3 Str.empty=true
 hdL:PySem.W.hasDictIn K C3=true
 poL:PySem.W.plainOver K C3=true
 saL:PySem.W.findIn K (.ref C3) "__setattr__"=some (some (.builtin "object.__setattr__"))
 mkL:PySem.W.makesIn K C3=true
 kpL:PySem.W.keepIn K (.ref C3)=true
 Bk:PySem.W.findIn K (.ref C) "empties"=some none
 Ir:PySem.W.findIn K (.ref C) "empty"=some none
 EH:PySem.W.findIn K (.ref C) "begins"=some none
 EG:PySem.W.findIn K (.ref C) "firsts"=some none
 Im:PySem.W.findIn K (.ref C3) "rules"=some none
 Ip:PySem.W.findIn K (.ref C3) "empty"=some none
 Io:PySem.W.findIn K (.ref C3) "least"=some none
 EF:PySem.W.findIn K (.ref C3) "hollow"=some none
 uw:PySem.W.findIn K (.ref C3) "beginnings"=some none
 Iq:PySem.W.findIn K (.ref Cg) "rules"=some none
 xo:PySem.W.findIn K (.ref Cg) "strengths"=some none
 tU:PySem.W.findIn K (.ref Cg) "begin_table"=some none
 xp:PySem.W.findIn K (.ref Cg) "standings"=some none
 tT:PySem.W.findIn K (.ref Cg) "small_trees"=some none
 UK:PySem.W.nsIn K mainGlobals "len"=some none
 Me:PySem.W.nsIn K mainGlobals "range"=some none
 xF:PySem.W.nsIn K mainGlobals "isinstance"=some none
 Md:PySem.W.nsIn K mainGlobals "tuple"=some none
 Pw:PySem.W.nsIn K mainGlobals "list"=some none
 Px:PySem.W.nsIn K mainGlobals "dict"=some none
 UN:PySem.W.nsIn K mainGlobals "all"=some none
 UM:PySem.W.nsIn K mainGlobals "any"=some none
 UG:PySem.W.nsIn K mainGlobals "str"=some none
 UL:PySem.W.nsIn K mainGlobals "int"=some none
 Py:PySem.W.nsIn K mainGlobals "bool"=some none
 zK:PySem.W.nsIn K mainGlobals "enumerate"=some none
 UE:PySem.W.nsIn K mainGlobals "sum"=some none
 UJ:PySem.W.nsIn K mainGlobals "max"=some none
 UI:PySem.W.nsIn K mainGlobals "min"=some none
def all_mk {l:PySem.W.OpenLaw}{w:World}{K:a8}{h:Heap}{mg:Str->Option Value}{fa C Cg C3 T1 T2 T3:Addr}{tm:Tok}(X:K.In h)(G:h.Ns mainGlobals mg)(hfa:mg "law"=some (.ref fa))(tp:Top K C Cg C3 T1 T2 T3 tm) :
  ∃fd:FuncData,(∀(s:Shared)(v:Value),BindsTo s fd ⟨[v],[]⟩ [("_law_script",v)])/\∀base:Heap,K.In base->base.Ns mainGlobals mg->tY mg base->bR l.prog w K mg base fY 12 fa fd ["_law_script"] (BQ K T1 T2 T3):=by
 have T:Txt mg:=⟨gY X G tp.UK,gY X G tp.Me,gY X G tp.xF,gY X G tp.Md,gY X G tp.Pw,gY X G tp.Px,gY X G tp.UN,gY X G tp.UM,gY X G tp.UG,gY X G tp.UL,gY X G tp.Py,gY X G tp.zK,gY X G tp.UE,gY X G tp.UJ,gY X G tp.UI⟩;obtain⟨LG,LQ,zj,Lg⟩:=tp.WE.get X G;have LW:=zj.binds (ps:=["rules","sizes","better"]) λ_ _ _ _ _ _=>by exact Jo λ_ _ _=>rfl
 obtain⟨RQ,Si,IF,QD⟩:=tp.WM.get X G;have Sq:=IF.binds (ps:=["rules","strengths"]) λ_ _ _ _ _ _=>by exact CM λ_ _=>rfl
 obtain⟨f_L,d_L,YK,m_L⟩:=tp.hL.get X G;have b_L:=YK.binds (ps:=["rules"]) λ_ _ _ _ _ _=>by exact xH λ_=>rfl
 obtain⟨f_G,d_G,YL,m_G⟩:=tp.hG.get X G;have b_G:=YL.binds (ps:=["rules"]) λ_ _ _ _ _ _=>by exact xH λ_=>rfl
 obtain⟨Xw,X7,OH,VZ⟩:=tp.hLB.get X G;have Yl:=OH.binds (ps:=["rules"]) λ_ _ _ _ _ _=>by exact xH λ_=>rfl
 obtain⟨Xz,aaw,SN,QF⟩:=tp.mB1.get;have Yp:=SN.binds (ps:=["self","rules"]) λ_ _ _ _ _ _=>by exact CM λ_ _=>rfl
 obtain⟨aaq,aav,SM,V2⟩:=tp.mB2.get;have Yo:=SM.binds (ps:=["self","number","rule"]) λ_ _ _ _ _ _=>by exact Jo λ_ _ _=>rfl
 obtain⟨aap,aau,SK,V1⟩:=tp.mB3.get;have Yn:=SK.binds (ps:=["self","part"]) λ_ _ _ _ _ _=>by exact CM λ_ _=>rfl
 obtain⟨Xx,aas,SI,QE⟩:=tp.mL1.get;have Ym:=SI.binds (ps:=["self","rules","begin_table"]) λ_ _ _ _ _ _=>by exact Jo λ_ _ _=>rfl
 obtain⟨Xy,aat,SJ,V0,Wl⟩:=tp.mG1.get;have cB:BC K C:=⟨⟨tp.pgB,tp.hdB,tp.poB,tp.saB⟩,tp.Bk,tp.Ir,tp.EH,tp.EG⟩;have cG:GC K Cg:=⟨⟨tp.pgG,tp.hdG,tp.poG,tp.saG⟩,tp.Iq,tp.xo,tp.tU,tp.xp,tp.tT⟩;have cL:LC K C3:=⟨⟨tp.pgL,tp.hdL,tp.poL,tp.saL⟩,tp.Im,tp.Ip,tp.Io,tp.EF,tp.uw⟩;have kL:Mk K C3 Xx:=⟨tp.mkL,QE.at_,QE.fn,tp.kpL⟩;have kB:Mk K C Xz:=⟨tp.mkB,QF.at_,QF.fn,tp.Hc⟩;have kG:Mk K Cg Xy:=⟨tp.mkG,V0,Wl,tp.kpG⟩;obtain⟨f9,d9,F9,m9⟩:=tp.WW.get X G;have e:=hfa.symm.trans m9;cases e;obtain⟨oc,od,kV,doc,pm,an,eK,ct,wJ,eL,lk,w6⟩:=F9.ex;refine⟨d9,λs v=>?_,λbase _ _ RM=>?_⟩
 .rw [eL];exact .of_eq rfl
 have c0:=tp.h0.c (P:=l.prog) (w:=w) (base:=base) X G (λ_ _ _ _ _ _=>by exact xH λ_=>rfl) λF m B=>Gy F T;have c1:=tp.h1.c (P:=l.prog) (w:=w) (base:=base) X G (λ_ _ _ _ _ _=>by exact xH λ_=>rfl) λF m B=>JO F T c0;have c2:=tp.h2.c (P:=l.prog) (w:=w) (base:=base) X G (λ_ _ _ _ _ _=>by exact xH λ_=>rfl) λF m B=>M7 F T;have c3:=tp.h3.c (P:=l.prog) (w:=w) (base:=base) X G (λ_ _ _ _ _ _=>by exact CM λ_ _=>rfl) λF m B=>yk F T;have c4:=tp.h4.c (P:=l.prog) (w:=w) (base:=base) X G (λ_ _ _ _ _ _=>by exact CM λ_ _=>rfl) λF m B=>Ax F T;have c5:=tp.h5.c (P:=l.prog) (w:=w) (base:=base) X G (λ_ _ _ _ _ _=>by exact xH λ_=>rfl) λF m B=>Gp F T;have c6:=tp.h6.c (P:=l.prog) (w:=w) (base:=base) X G (λ_ _ _ _ _ _=>by exact xH λ_=>rfl) λF m B=>Ay F T;have c7:=tp.h7.c (P:=l.prog) (w:=w) (base:=base) X G (λ_ _ _ _ _ _=>by exact CM λ_ _=>rfl) λF m B=>Dn F T;have c8:=tp.h8.c (P:=l.prog) (w:=w) (base:=base) X G (λ_ _ _ _ _ _=>by exact Jo λ_ _ _=>rfl) λF m B=>M6 F T;have c9:=tp.h9.c (P:=l.prog) (w:=w) (base:=base) X G (λ_ _ _ _ _ _=>by exact xH λ_=>rfl) λF m B=>Gs F T c6 c0;have c10:=tp.h10.c (P:=l.prog) (w:=w) (base:=base) X G (λ_ _ _ _ _ _=>by exact xH λ_=>rfl) λF m B=>JQ F T c9 c8;have c11:=tp.h11.c (P:=l.prog) (w:=w) (base:=base) X G (λ_ _ _ _ _ _=>by exact xH λ_=>rfl) λF m B=>Gq F T;have c12:=tp.h12.c (P:=l.prog) (w:=w) (base:=base) X G (λ_ _ _ _ _ _=>by exact xH λ_=>rfl) λF m B=>M8 F T;have Je:=tp.h13.c (P:=l.prog) (w:=w) (base:=base) X G (λ_ _ _ _ _ _=>by exact CM λ_ _=>rfl) λF m B=>JU F T;have c14:=tp.h14.c (P:=l.prog) (w:=w) (base:=base) X G (λ_ _ _ _ _ _=>by exact Jo λ_ _ _=>rfl) λF m B=>Du F T;have Yg:=tp.Xu.c (P:=l.prog) (w:=w) (base:=base) X G (λ_ _ _ _ _ _=>by exact xH λ_=>rfl) λF m B=>Gv F T;have c16:=tp.h16.c (P:=l.prog) (w:=w) (base:=base) X G (λ_ _ _ _ _ _=>by exact xH λ_=>rfl) λF m B=>Dk F T;have c17:=tp.h17.c (P:=l.prog) (w:=w) (base:=base) X G (λ_ _ _ _ _ _=>by exact YW λ_ _ _ _ _=>rfl) λF m B=>JP F T (Je.mono nofun) (c14.mono nofun);have c18:=tp.h18.c (P:=l.prog) (w:=w) (base:=base) X G (λ_ _ _ _ _ _=>by exact SU λ_ _ _ _=>rfl) λF m B=>JN F T (Je.mono nofun) (c14.mono nofun);have c19:=tp.h19.c (P:=l.prog) (w:=w) (base:=base) X G (λ_ _ _ _ _ _=>by exact CM λ_ _=>rfl) λF m B=>GK F T;have c20:=tp.h20.c (P:=l.prog) (w:=w) (base:=base) X G (λ_ _ _ _ _ _=>by exact xH λ_=>rfl) λF m B=>JS F T (c19.mono nofun);have c21:=tp.h21.c (P:=l.prog) (w:=w) (base:=base) X G (λ_ _ _ _ _ _=>by exact CM λ_ _=>rfl) λF m B=>JR F T (Je.mono nofun) (Yg.mono nofun) (c16.mono nofun) (c18.mono nofun) (c17.mono nofun) (c20.mono nofun);have c22:=tp.h22.c (P:=l.prog) (w:=w) (base:=base) X G (λ_ _ _ _ _ _=>by exact CM λ_ _=>rfl) λF m B=>GU F T;have c23:=tp.h23.c (P:=l.prog) (w:=w) (base:=base) X G (λ_ _ _ _ _ _=>by exact SU λ_ _ _ _=>rfl) λF m B=>GO F T;have c24:=tp.h24.c (P:=l.prog) (w:=w) (base:=base) X G (λ_ _ _ _ _ _=>by exact Jo λ_ _ _=>rfl) λF m B=>Dr F T;have c25:=tp.h25.c (P:=l.prog) (w:=w) (base:=base) X G (λ_ _ _ _ _ _=>by exact SU λ_ _ _ _=>rfl) λF m B=>Ds F T (c22.mono nofun) (c23.mono nofun);have c26:=tp.h26.c (P:=l.prog) (w:=w) (base:=base) X G (λ_ _ _ _ _ _=>by exact SU λ_ _ _ _=>rfl) λF m B=>Dt F T (c24.mono nofun) (c25.mono nofun);have c27:=tp.h27.c (P:=l.prog) (w:=w) (base:=base) X G (λ_ _ _ _ _ _=>by exact CM λ_ _=>rfl) λF m B=>Dl F T (c0.mono nofun) (c26.mono nofun);have c28:=tp.h28.c (P:=l.prog) (w:=w) (base:=base) X G (λ_ _ _ _ _ _=>by exact xH λ_=>rfl) λF m B=>uP F T B m 10;have c29:=tp.h29.c (P:=l.prog) (w:=w) (base:=base) X G (λ_ _ _ _ _ _=>by exact xH λ_=>rfl) λF m B=>Dp F T;have c30:=tp.h30.c (P:=l.prog) (w:=w) (base:=base) X G (λ_ _ _ _ _ _=>by exact YW λ_ _ _ _ _=>rfl) λF m B=>yj F T B m 7;have c31:=tp.h31.c (P:=l.prog) (w:=w) (base:=base) X G (λ_ _ _ _ _ _=>by exact Jo λ_ _ _=>rfl) λF m B=>Dq F T (c29.mono nofun) (c30.mono nofun) (c28.mono nofun);have c32:=tp.h32.c (P:=l.prog) (w:=w) (base:=base) X G (λ_ _ _ _ _ _=>by exact CM λ_ _=>rfl) λF m B=>La F T B m 10;have Yc:aE l.prog w K mg base 2 "settled_sizes" ["rules","sizes","better"] (iI K zu sL.1 sL.2.1 sL.2.2.1 M11.bl):=⟨LG,LQ,Au zj T,LW,zj.kp,Lg⟩;have Yd:aE l.prog w K mg base 2 "settled_sizes" ["rules","sizes","better"] (iI K Lh AG.1 AG.2.1 AG.2.2.1 M11.bg):=⟨LG,LQ,Av zj T,LW,zj.kp,Lg⟩;have c_L:aE l.prog w K mg base 3 "least_sizes" ["rules"] (qI K T1):=⟨f_L,d_L,Gx YK T RM c5 Yc,b_L,YK.kp,m_L⟩;have c_G:aE l.prog w K mg base 3 "greatest_empty_sizes" ["rules"] (vZ K T2):=⟨f_G,d_G,Gz YL RM Yd,b_G,YL.kp,m_G⟩;have Sl:aE l.prog w K mg base 4 "refuse_faults" ["rules","strengths"] (rT K T1 T2):=⟨RQ,Si,Dm IF T (oR X G tp.nM) c11 c_L c0 c12 c10 c_G,Sq,IF.kp,QD⟩;have Ye:aE l.prog w K mg base 4 "least_by_part" ["rules"] (pq K T1 T3):=⟨Xw,X7,Aw OH T RM (gY X G tp.Bt) (c0.mono nofun) c_L (c1.mono nofun) (c3.mono nofun),Yl,OH.kp,VZ⟩;have VD:=Gu (P:=l.prog) (w:=w) (base:=base) SK T cB;have VE:=JT SM T cB c7 VD V1 Yn;have VF:=GQ SN T cB c6 c0 VE V2 Yo;have VB:=Gw SI T cB cL Ye (c4.mono nofun);have VC:=GA SJ T cG (Sl.mono nofun) (c2.mono nofun) (VF.mono nofun) kB Yp (oR X G tp.nB) VB kL Ym (oR X G tp.nL);exact M_ F9 T (gY X G tp.Bt) (gY X G tp.UH) (c21.mono nofun) (c31.mono nofun) (c28.mono nofun) (c32.mono nofun) (c27.mono nofun) cG kG (VC.mono nofun) (HI SJ) (oR X G tp.nG)
def walk {l:PySem.W.OpenLaw}{q:Program}{loose:List Str}{XP:(Str->Option Value)->Heap->Prop}{YP:World->Heap->Prop}{d:DefRec}{K:Params->a8}(T1 T2 T3 c1 c2 c3:Addr)(Ld:T1≠T2)(Lc:T1≠T3)(Lb:T2≠T3)(hn:l.most=some 63)(NO:d.params.defaults=[])
  (hY:∀(w:World)(h:Heap),YP w h->(K w.params).In h/\∀T∈[T3,T2,T1],h.get? T=some (PySem.W.tabObj #[]))
  (hK1:∀w:World,(K w.params).lookup T1=none)(hK2:∀w:World,(K w.params).lookup T2=none)(hK3:∀w:World,(K w.params).lookup T3=none)(Ua:∀w:World,PySem.W.codeHdIn (K w.params) c1 T1=true)(IX:∀w:World,PySem.W.codeHdIn (K w.params) c2 T2=true)(NY:∀w:World,PySem.W.codeHdIn (K w.params) c3 T3=true)
  (F:∀(w:World)(mg:Str->Option Value)(fa:Addr)(h:Heap),(K w.params).In h->h.Ns mainGlobals mg->mg d.name=some (.ref fa) ->
   ∃fd:FuncData,(∀(s:Shared)(u:Value),BindsTo s fd ⟨[u],[]⟩ [("_law_script",u)])/\∀base:Heap,(K w.params).In base->base.Ns mainGlobals mg->tY mg base->bR l.prog w (K w.params) mg base fY 12 fa fd ["_law_script"] (BQ (K w.params) T1 T2 T3)) :
  PySem.W.WalkO q loose XP YP l.row.toRowW d [] (λf vs=>PySem.call f vs) :=
 L2.Fd (n:=63) (k:=12) (x := "_law_script") (CX:=λ_=>fY) (sp:=λw=>BQ (K w.params) T1 T2 T3) hn nofun NO ⟨rfl,nofun,nofun⟩ hY (λw T hT=>by
  rcases bY.mp hT with e | hT
  .subst e;exact⟨hK3 w,c3,NY w⟩
  rcases bY.mp hT with e | hT
  .subst e;exact⟨hK2 w,c2,IX w⟩
  rw [bC.mp hT];exact⟨hK1 w,c1,Ua w⟩) F (λ_ H a ns hl _ hT hS=>⟨a,ns,rfl,hS,hl,⟨⟨#[],hT T1 (by simp),by trivial,.inl rfl⟩,⟨#[],hT T2 (by simp),by trivial,.inl rfl⟩,⟨#[],hT T3 (by simp),by trivial,.inl rfl⟩,Ld,Lc,Lb⟩,λ_=>rfl⟩) λ_ _ _ _ _ z=>z
end gT
set_option maxHeartbeats 0
end
namespace HD
open PySem PySem.W L2
def UY (P:Params):gT.Top (K P) 145 407 378 288 293 322 591:=⟨nofun,nofun,nofun,nofun,nofun,nofun,
 hD 26 25 HD.m1 (nofun),
 hD 36 35 HD.m1 (nofun),
 hD 43 42 HD.m1 (nofun),
 hD 330 329 HD.m8 (nofun),
 hD 335 334 HD.m8 (nofun),
 hD 31 30 HD.m1 (nofun),
 hD 88 87 HD.m3 (nofun),
 hD 95 94 HD.m3 (nofun),
 hD 286 285 HD.m5 (nofun),
 hD 279 278 HD.m5 (nofun),
 hD 274 273 HD.m5 (nofun),
 hD 315 314 HD.m7 (nofun),
 hD 320 319 HD.m7 (nofun),
 hD 418 417 HD.mY (nofun),
 hD 437 436 HD.mY (nofun),
 hD 423 422 HD.mY (nofun),
 hD 430 429 HD.mY (nofun),
 hD 451 450 HD.mY (nofun),
 hD 444 443 HD.mY (nofun),
 hD 456 455 HD.mY (nofun),
 hD 461 460 HD.mY (nofun),
 hD 468 467 HD.mY (nofun),
 hD 50 49 HD.m1 (nofun),
 hD 83 82 HD.m2 (nofun),
 hD 69 68 HD.m2 (nofun),
 hD 76 75 HD.m2 (nofun),
 hD 62 61 HD.m2 (nofun),
 hD 55 54 HD.m2 (nofun),
 hD 487 486 HD.mY (nofun),
 hD 473 472 HD.mY (nofun),
 hD 480 479 HD.mY (nofun),
 hD 492 491 HD.mY (nofun),
 hD 497 496 HD.mY (nofun),
 hD 502 501 HD.mY (nofun),
 hD 303 302 HD.m6 (nofun),
 hD 308 307 HD.m7 (nofun),
 hC 291 290 HD.m6 (nofun),
 hC 298 297 HD.m6 (nofun),
 hC 325 324 HD.m8 (nofun),
 hM 347 346 HD.m8 (nofun),
 hM 107 106 HD.m3 (nofun),
 hM 114 113 HD.m3 (nofun),
 hM 121 120 HD.m3 (nofun),
 ⟨397,.type "function",none,none,#[],.none,.none,.str "wright.grammars" 702,.ref 396,.none,390,⟨.type "tuple",none,.seq #[.none] 0,#[]⟩,0,nofun,nofun,nofun,nofun,rfl,nofun,nofun⟩,nofun,nofun,nofun,nofun,nofun,nofun,nofun,nofun,nofun,nofun,nofun,nofun,nofun,nofun,nofun,nofun,nofun,nofun,nofun,nofun,nofun,nofun,nofun,nofun,nofun,nofun,nofun,nofun,nofun,nofun,nofun,nofun,nofun,nofun,nofun,nofun,nofun,nofun,nofun,nofun,nofun,nofun,nofun,nofun,nofun,nofun,nofun⟩
end HD
theorem PySem.Challenge.cw_wright_k67_trees_of_deeds_holds : PySem.Challenge.rw_wright_k67_trees_of_deeds.Holds := by
 refine HD.hold ?_ ?hw
 case hw=>w_witness2
 refine gT.walk (l:=PySem.Challenge.rw_wright_k67_trees_of_deeds) (K:=HD.K) 288 293 322 290 297 324 nofun nofun nofun rfl HD.ok5 (λw h Y=>⟨PySem.W.km_in_of Y,PySem.W.km_tabs_of Y⟩) (λw=>by kernel_rfl) (λw=>by kernel_rfl) (λw=>by kernel_rfl) (λw=>by kernel_rfl) (λw=>by kernel_rfl) (λw=>by kernel_rfl) ?F;intro w mg fa h KX G NF;exact gT.all_mk KX G NF (HD.UY w.params)
