import PyProof.Rows.All
import Wide.All
import OpenK.AllK
import Wide.FinOn
import Lean
import PyProof.EqAt
import PyProof.EqKinds
import PyProof.TupleCall
import KE.KNestM
import PyProof.IsiH_list
import PyProof.RaisesAny
import KE.KDictOf
import PyProof.CollectWalk
import PyProof.CompFree
import KE.KDictList
import PyProof.NeKinds
import PyProof.ConsumeWalk
import PyProof.StrBlockI
import PyProof.EnumFor
import PyProof.TupleIter
import PyProof.EnumMake
import KE.KLam
import PyProof.DictUpdate
import PyProof.SeqI3
import PyProof.DictWalks
import PyProof.ConsumeS
import PyProof.Rows.CallKwBuiltin
import KE.KDictLaws
import PyProof.AutoListH
import PyProof.ZipIter
import PyProof.ListNew
import KE.KRevSl
import PyProof.StrOps
import PyProof.StrOps2
import KE.KSortKey
import PyProof.Rows.SetFrom
import PySem.Challenge.RW_wright_k67_trees_of_deeds
set_option Elab.async false
set_option linter.all false
set_option maxRecDepth 100000
local macro_rules | `(tactic| omega) => `(tactic| first | lia | omega (config := {}))
def bA:=@Or.inl
abbrev a8:=PySem.W.Frag
def rJ:0<=PySem.sizeLine:=by decide
def xB:1<=PySem.sizeLine:=by decide
def oJ:2<=PySem.sizeLine:=by decide
def KQ:3<=PySem.sizeLine:=by decide
def zl4:4<=PySem.sizeLine:=by decide
def av.{u,v}:=@List.length_map.{u,v}
def bj.{u}:=@List.getElem?_eq_some_iff.{u}
def aq:=@PySem.wpAny_bind
def bG:=@PySem.Heap.get?_push_of_some
def bp.{u}:=@List.length_append.{u}
def bo.{u,v}:=@List.getElem?_map.{u,v}
def cf.{u,v}:=@Option.map_eq_some_iff.{u,v}
def bZ.{u}:=@List.mem_of_getElem?.{u}
def aH:=@PySem.wpAny_pure
def bF.{u,v}:=@List.map_append.{u,v}
def b9.{u}:=@List.getElem?_eq_getElem.{u}
def aD:=@Nat.le_refl
def bB.{u}:=@List.mem_singleton.{u}
def bN.{u}:=@List.size_toArray.{u}
def a_:=@PySem.Paired.length
def cy:=@PySem.Heap.get?_push_size
def cV.{u}:=@List.mem_cons_of_mem.{u}
def cI.{u}:=@List.mem_cons_self.{u}
def bM:=@decide_eq_true
def bu:=@PySem.Heap.lt_size
def cZ:=@Bool.false_ne_true
def cP.{u}:=@List.take_add_one.{u}
def b8:=@PySem.PassesOwn.never
def bD:=@Nat.ne_of_lt
def cg.{u}:=@List.mem_append.{u}
def cO.{u}:=@List.take_length.{u}
def d8.{u}:=@List.length_singleton.{u}
def ax.{u}:=@if_pos.{u}
def aw.{u}:=@if_neg.{u}
def bX.{u}:=@List.mem_cons.{u}
def dw:=@of_decide_eq_true
def cU:=@decide_eq_false
def fZ:=@PySem.F.plainAttrs_list
def gK:=@PySem.F.type_list_append
def gJ:=@PySem.F.slot_list_append
def fS.{u}:=@List.mem_append_right.{u}
def dC.{u}:=@List.length_take.{u}
def fj:=@Bool.and_eq_true_iff
def cN.{u,v}:=@List.map_cons.{u,v}
def cx.{u,v}:=@List.mem_map.{u,v}
def dQ.{u}:=@List.length_cons.{u}
def dI:=@PySem.boot_len
def gr:=@Nat.lt_of_lt_of_le
def j_:=@PyProof.Rows.boot_isinstance
def gX:=@PySem.W.mg_none_of
def iw.{u}:=@List.getElem?_of_mem.{u}
def dH:=@Nat.le_trans
def gI:=@Int.toNat_natCast
def gq.{u}:=@List.all_eq_true.{u}
def gH:=@PySem.wpAny_newObj_type
def iG.{u}:=@List.mem_append_left.{u}
def nv:=@PyProof.Rows.slot_tuple_getitem
def iF.{u}:=@Array.length_toList.{u}
def dB:=@PySem.wpAny_mono
def lW.{u}:=@Option.isSome_iff_exists.{u}
def nu.{u}:=@List.getElem?_append_right.{u}
def nr.{u}:=@List.getD_eq_getElem?_getD.{u}
def qc.{u}:=@List.take_append_of_le_length.{u}
def iu.{u}:=@Option.some.inj.{u}
def ir.{u}:=@List.append_nil.{u}
def fh:=@Nat.zero_le
def j9.{u,v}:=@List.mem_map_of_mem.{u,v}
def kM.{u}:=@beq_eq_false_iff_ne.{u}
def iW.{u}:=@List.length_nil.{u}
def nq:=@PySem.wpAny_callSpecial?_slot
def j8.{u}:=@List.nodup_append.{u}
def qb.{u}:=@List.getElem?_append_left.{u}
def lV:=@PySem.Around.under_plainId
def j7:=@Nat.lt_succ_self
def qa:=@PyProof.Rows.boot_tuple
def j6:=@PySem.wpAny_call_entry
def gW:=@PySem.Paired.snoc
def p_.{u}:=@List.getElem?_eq_none.{u}
def lU.{u}:=@List.append_assoc.{u}
def iV:=@PySem.wpAny_holding
def iU.{u,v,w}:=@List.map_map.{u,v,w}
def j5:=@PySem.Heap.size_push
def iq:=@PySem.wpAny_field
def nj:=@PySem.wpAny_Call_Name_kw
def kK:=@PySem.codeAny_builtin
def qU.{u}:=@List.take_of_length_le.{u}
def pZ.{u,v}:=@List.flatMap_append.{u,v}
def kJ.{u}:=@List.nodup_nil.{u}
def j4:=@Bool.true_and
def lS.{u}:=@List.mem_filter.{u}
def qT.{u}:=@Array.getElem?_toList.{u}
def ni:=@PySem.wpAny_truthy_bool
def qS.{u}:=@List.mem_of_mem_take.{u}
def qR.{u}:=@List.mem_iff_getElem.{u}
def qQ:=@PySem.Heap.get?_update_self
def jZ:=@Nat.ne_of_gt
def jY:=@Int.zero_add
def pY:=@PySem.Calls.spliced_cons
def pX:=@Nat.lt_succ_of_lt
def xA:=@PyProof.Rows.callWith_type1
def ng.{u}:=@List.nodup_cons.{u}
def qP.{u}:=@List.length_reverse.{u}
def m_:=@Bool.eq_iff_iff
def jX:=@PySem.wpAny_typeOf
def pW.{u}:=@List.getElem_mem.{u}
def kR:=@Bool.and_eq_true
def mC:=@PySem.Heap.SameBut.update
def jC:=@List.mem_range
def o_.{u}:=@List.dropLast_concat.{u}
def i8:=@PySem.plainId_quiet
def mz.{u}:=@List.reverse_cons.{u}
def kQ.{u}:=@List.nil_append.{u}
def mx:=@List.length_range
def rH.{u}:=@List.getElem?_take_of_lt.{u}
def i7:=@Nat.le_of_lt
def jB:=@Nat.lt_irrefl
def rG.{u}:=@List.length_eq_zero_iff.{u}
def rF.{u}:=@List.getLast?_singleton.{u}
def mw:=@PySem.wpAny_pyIter_list
def mv.{u}:=@List.length_drop.{u}
def o9.{u,v}:=@List.map_singleton.{u,v}
def o8.{u}:=@List.filter_append.{u}
def jA:=@Nat.lt_trans
def i6:=@Nat.le_succ
def rE.{u}:=@List.length_filter_le.{u}
def ik:=@PySem.wpAny_rule
def o7.{u,v}:=@Option.isSome_map.{u,v}
def kP.{u}:=@List.sum_cons.{u}
def rD:=@PySem.Calls.callWith_builtin
def o6:=@PySem.tupleKind_room_in1
def o5:=@PySem.Obj.data_mapFields
def rC.{u}:=@List.getLast?_append.{u}
def mr:=@PySem.wpAny_passesOwn
def jz:=@PySem.codeAny_mono
def oZ.{u}:=@beq_self_eq_true.{u}
def oY.{u,v}:=@List.getElem_map.{u,v}
def oX:=@PySem.wpAny_setState_of
def rB:=@PySem.mem_of_lookup
def fk.{u}:=@Ne.symm.{u}
def rA.{u,v}:=@List.filterMap_cons.{u,v}
def oW:=@PySem.Calls.spliced_nil
def vN:=@PySem.F.slot_tuple_iterator_next
def mq:=@PySem.wpAny_seqItems
def rq:=@Nat.lt_of_le_of_lt
def oV.{u}:=@List.find?_cons.{u}
def oU:=@PySem.wpAny_askSetting
def vM:=@PySem.F.slot_list_getattribute
def kO:=@PySem.F.called_set
def vL.{u}:=@Array.getElem?_eq_none.{u}
def ro:=@Bool.eq_false_iff
def oS.{u}:=@List.take_zero.{u}
def oR:=@Bool.and_false
def rm:=@PySem.wpAny_setField_rec
def vK:=@PySem.wpAny_loadPart'
def mn:=@Nat.sub_zero
def vJ.{u}:=@List.take_append_drop.{u}
def ml.{u,v}:=@List.map_nil.{u,v}
def vI.{u}:=@List.getElem?_reverse.{u}
def rj.{u}:=@List.not_mem_nil.{u}
def rh.{u,v}:=@List.mem_flatMap.{u,v}
def vH:=@PySem.Heap.get?_update_other
def oQ:=@PySem.W.mg_of
def oP.{u,v}:=@List.map_take.{u,v}
def vG:=@PySem.wpAny_pyNext_list_end
def vF:=@PySem.builtinLookup_eq_fast
def mj.{u,v}:=@Sum.inr.inj.{u,v}
def rg.{u,v}:=@Option.map_some.{u,v}
def q_:=@Nat.not_lt_zero
def vE:=@PySem.F.slot_enumerate_next
def vC.{u}:=@Array.toList_append.{u}
def q9:=@PySem.wpAny_isInstance
def q8:=@PySem.Around.in1_units
def vB:=@PySem.wpAny_loadName_local
def vy:=@PySem.codeAny_call_builtin
def oO:=@Nat.zero_add
def vx:=@PySem.Calls.evalArgs_plain
def oN:=@PySem.wpAny_attempt
def qZ.{u}:=@List.drop_zero.{u}
def qY:=@Bool.false_and
def kN:=@PySem.wpAny_call
def zG:=@PySem.F.slot_dict_update
def zF:=@PySem.F.args_tuple_add_2
def vw.{u,v}:=@List.foldl_append.{u,v}
def vv.{u,v}:=@List.flatMap_cons.{u,v}
def zE:=@PySem.F.plainAttrs_dict
def zD:=@PySem.F.entry_tuple_add
def qX.{u,v}:=@Prod.mk.injEq.{u,v}
def qW.{u}:=@List.any_cons.{u}
def oM:=@Int.le_refl
def vq:=@PySem.wpAny_pyIter_tuple
def vp.{u}:=@List.getElem_inj.{u}
def vo.{u}:=@List.filter_cons.{u}
def qV:=@PySem.wpAny_setField
def zC:=@PySem.F.slot_tuple_add
namespace L2
open PySem PySem.Spec PyProof.Rows
abbrev aL:=Sum Int Str
def sJ:aL->Value->Bool
 | .inl k,v=>Value.isInt k v
 | .inr x,v=>Value.isStrOf x v
def V5 (w:World):aL->Int
 | .inl k=>hashInt k
 | .inr x=>hashStr w x
def du:∀{k:aL}{v:Value},sJ k v=true->(∃i t,k=Sum.inl i/\v=Value.int i t)\/(∃x t,k=Sum.inr x/\v=Value.str x t)
 | .inl i,v,h=>by
  obtain⟨t,e⟩:=Value.isInt_shape (k:=i) (v:=v) h;exact .inl ⟨i,t,rfl,e⟩
 | .inr x,v,h=>by
  obtain⟨t,e⟩:=Value.isStrOf_shape (x:=x) (v:=v) h;exact .inr ⟨x,t,rfl,e⟩
def DC (i:Int)(t:Tok):sJ (.inl i) (.int i t)=true:=by simp [sJ,Value.isInt]
def DB (x:Str)(t:Tok):sJ (.inr x) (.str x t)=true:=by simp [sJ,Value.isStrOf]
def Nm (a b:Int):decide ((Sum.inl a:aL)=Sum.inl b)=(a == b):=by
 by_cases e:a=b
 .subst e;simp
 have h:¬(Sum.inl a:aL)=Sum.inl b:=λq=>e (Sum.inl.inj q);rw [cU h];exact(kM.mpr e).symm
def Nj (a b:Str):decide ((Sum.inr a:aL)=Sum.inr b)=decide (a=b):=by
 by_cases e:a=b
 .subst e;simp
 have h:¬(Sum.inr a:aL)=Sum.inr b:=λq=>e (mj q);rw [cU h,cU e]
def Nl (a:Int)(b:Str):decide ((Sum.inl a:aL)=Sum.inr b)=false:=cU (λq=>nomatch q)
def Nk (a:Str) (b:Int):decide ((Sum.inr a:aL)=Sum.inl b)=false:=cU (λq=>nomatch q)
def bh (prog:Program)(w:World):PySem.KeyKind prog w aL where
 is:=sJ
 hash:=V5 w
 inj:=λv a b ha hb=>by
  rcases du ha with ⟨i,t,rfl,rfl⟩ | ⟨x,t,rfl,rfl⟩
  .rcases du hb with ⟨j,u,rfl,e⟩ | ⟨y,u,rfl,e⟩
   .injection e with e1 _;rw [e1]
   exact nomatch e
  rcases du hb with ⟨j,u,rfl,e⟩ | ⟨y,u,rfl,e⟩
  .exact nomatch e
  injection e with e1 _;rw [e1]
 byValue:=λk v h=>by
  rcases du h with ⟨i,t,rfl,rfl⟩ | ⟨x,t,rfl,rfl⟩ <;> rfl
 pyHash:=λhv h=>by
  rcases du hv with ⟨i,t,rfl,rfl⟩ | ⟨x,t,rfl,rfl⟩
  .exact wpAny_pyHash_int h
  exact wpAny_pyHash_str h
 eqBool:=λhu hv h=>by
  rcases du hu with ⟨i,t,rfl,rfl⟩ | ⟨x,t,rfl,rfl⟩
  .rcases du hv with ⟨j,u,rfl,rfl⟩ | ⟨y,u,rfl,rfl⟩
   .rw [Nm] at h;exact wpAny_eqBool_int h
   rw [Nl] at h;exact SeqAt.EqAt.int_str i t y u _ _ _ _ h
  rcases du hv with ⟨j,u,rfl,rfl⟩ | ⟨y,u,rfl,rfl⟩
  .rw [Nk] at h;exact SeqAt.EqAt.str_int x t j u _ _ _ _ h
  rw [Nj] at h;exact wpAny_eqBool_str h
 «strs»:=λk x t v h=>by
  rcases du h with ⟨i,u,rfl,e⟩ | ⟨y,u,rfl,e⟩
  .exact nomatch e
  injection e with e1 _;subst e1;cases v <;> rfl
def yp (prog:Program)(w:World) (i:Int)(t:Tok):(bh prog w).is (.inl i) (.int i t)=true:=DC i t
def yo (prog:Program)(w:World)(x:Str)(t:Tok):(bh prog w).is (.inr x) (.str x t)=true:=DB x t
inductive V where
 | eU | bl (b:Bool) | int (i:Int) | str (x:Str) | Bd (b:Array UInt8) | N1 (b:UInt64) | ref (a:Addr) | ty (n:String)
 deriving DecidableEq
def RelV:V->Value->Prop
 | .eU,u=>u=Value.none
 | .bl b,u=>u=Value.bool b
 | .int i,u=>∃t,u=Value.int i t
 | .str x,u=>∃t,u=Value.str x t
 | .Bd b,u=>∃t,u=Value.bytes b t
 | .N1 b,u=>∃t,u=Value.float b t
 | .ref a,u=>u=Value.ref a
 | .ty n,u=>u=Value.type n
abbrev aY:List V->List Value->Prop:=Paired RelV
theorem aY.length {xs:List V}{us:List Value}(r:aY xs us):xs.length=us.length:=a_ r
theorem aY.get:∀{xs:List V}{us:List Value}{i:Nat}{x:V},aY xs us->xs[i]?=some x->∃u,us[i]?=some u/\RelV x u
 | _,_,_,_,.nil,e=>by simp at e
 | _,_,0,_,.cons r _,e=>by simp at e;subst e;exact⟨_,rfl,r⟩
 | _,_,i+1,x,.cons _ t,e=>by
  obtain⟨u,h1,h2⟩:=aY.get (i:=i) (x:=x) t (by simpa using e);exact⟨u,by simpa using h1,h2⟩
theorem aY.set {x:V}{u:Value}(r:RelV x u):∀{xs:List V}{us:List Value}(i:Nat),aY xs us->aY (xs.set i x) (us.set i u)
 | _,_,_,.nil=>.nil
 | _,_,0,.cons _ t=>.cons r t
 | _,_,i+1,.cons q t=>.cons q (aY.set r i t)
theorem aY.append:∀{xs ys:List V}{us ws:List Value},aY xs us->aY ys ws->aY (xs++ys) (us++ws)
 | _,_,_,_,.nil,s=>s
 | _,_,_,_,.cons r t,s=>.cons r (aY.append t s)
theorem aY.take:∀{xs:List V}{us:List Value}(n:Nat),aY xs us->aY (xs.take n) (us.take n)
 | _,_,0,_=>.nil
 | _,_,_+1,.nil=>.nil
 | _,_,n+1,.cons r t=>.cons r (aY.take n t)
theorem aY.drop:∀{xs:List V}{us:List Value}(n:Nat),aY xs us->aY (xs.drop n) (us.drop n)
 | _,_,0,r=>r
 | _,_,_+1,.nil=>.nil
 | _,_,n+1,.cons _ t=>aY.drop n t
def aY.none_of:∀{xs:List V}{us:List Value}{i:Nat},aY xs us->xs[i]?=none->us[i]?=none:=λ{xs us i} r e=>by
 have h1:=r.length;have h2:xs.length<=i:=List.getElem?_eq_none_iff.mp e;exact List.getElem?_eq_none_iff.mpr (by omega)
def jV:Option V->Option Value->Prop
 | some v,some u=>RelV v u
 | none,none=>True
 | _,_=>False
def KV {κ:Type}:List (κ×V)->List (κ×Value)->Prop:=Paired λ(p:κ×V)(q:κ×Value)=>p.1=q.1/\RelV p.2 q.2
def kV:aL->V
 | .inl i=>.int i
 | .inr x=>.str x
inductive HO where
 | lst (xs:List V)
 | tup (xs:List V)
 | dK (kvs:List (aL×V)) | dT (kvs:List (List aL×V))
 | set (S:Int->Bool) (n:Nat)
 | ins (C dx:Addr)(fs:List (Str×V))
 | own (x:Addr)
 | xd (fs:List (Str×V))
 | met (f x:Addr)
 | CZ (lo hi:Int)
 | ku (o:Obj)(u:HO)
 | tX (ps:Array Value)
 | ext (φ:Heap->Prop)
abbrev Hp:=Addr->Option HO
def upd (H:Hp)(a:Addr)(o:HO):Hp:=λb=>if b=a then some o else H b
def ae {H:Hp}{a:Addr}{o:HO}:upd H a o a=some o:=by unfold upd;rw [ax rfl]
def ai {H:Hp}{a b:Addr}{o:HO}(h:b≠a):upd H a o b=H b:=by unfold upd;rw [aw h]
def nE {H:Hp}{a:Addr}{o u:HO}:upd (upd H a o) a u=upd H a u:=by
 funext b;unfold upd;split <;> rfl
def Qt {H:Hp}{a b:Addr}{o u:HO}(h:H a=some o)(h':H b=some u)(d:o≠u):a≠b:=by
 intro e;subst e;rw [h] at h';exact d (iu h')
def az {H:Hp}{a b:Addr}{o:HO}(h:H a=some o)(h':H b=none):a≠b:=by
 intro e;subst e;rw [h] at h';cases h'
section
variable (P:Program)(w:World)
def cK (H:Hp)(h:Heap)(a:Addr):HO->Prop
 | .lst xs=>xs.length<=sizeLine/\∃(aN:List Value) (n:Nat),aY xs aN/\h.get? a=some { cls:=.type "list",data:=.seq aN.toArray n }
 | .tup xs=>xs.length<=sizeLine/\∃aN:List Value,aY xs aN/\IsTup h a aN.toArray
 | .dK kvs=>kvs.length<=sizeLine/\(a == sysModules)=false/\∃vs,KV kvs vs/\h.DictOf (bh P w) a vs
 | .dT kvs=>kvs.length<=sizeLine/\(a == sysModules)=false/\∃xs:List (List aL×Addr×Value),
   Paired (λ(p:List aL×V)(q:List aL×Addr×Value)=>p.1=q.1/\H q.2.1=some (.tup (p.1.map kV))/\RelV p.2 q.2.2) kvs xs /\
   ∃o es ep,h.get? a=some o/\o.ExactDict/\o.data=.dict es ep/\es.toList=xs.map (entryOfKey (tupleKind (bh P w)))/\(xs.map (·.1)).Nodup
 | .set S n=>h.SetOf (intKind P w) a S n
 | .ins C dx fs=>H dx=some (.own a)/\fs.length<=1000/\dx≠a/\h.get? a=some (PySem.W.instObj C dx) /\
   ∃mA,h.Ns1 dx mA/\(∀f,jV (fs.lookup f) (mA f))/\PySem.Within mA (fs.map (·.1))
 | .own _=>∃o,h.get? a=some o
 | .xd fs=>∃mA,h.Ns1 a mA/\∀f,jV (fs.lookup f) (mA f)
 | .CZ lo hi=>∃t u v,h.get? a=some { cls:=.type "range",data:=.fields #[.int lo t,.int hi u,.int 1 v] }
 | .ku o u=>h.get? a=some o/\cK H h a u
 | .tX ps=>h.get? a=some { cls:=.none,data:=.fields ps }
 | .met f x=>h.get? a=some (PySem.W.methodObj (.ref f) (.ref x))
 | .ext φ=>φ h/\(∃o,h.get? a=some o)/\∀h1 h2:Heap,φ h1->(∀o,h1.get? a=some o->h2.get? a=some o)->φ h2
def mi (H:Hp)(h:Heap):Prop:=∀a o,H a=some o->cK P w H h a o
end
section
variable {P:Program}{w:World}{H H':Hp}{h h':Heap}{a:Addr}{o:HO}
theorem cK.lt (x:cK P w H h a o):a < h.objs.size:=by
 cases o with
 | lst xs=>obtain⟨_,_,_,_,e⟩:=x;exact bu e
 | tup xs=>obtain⟨_,_,_,p⟩:=x;exact p.lt
 | dK kvs=>obtain⟨_,_,_,_,o,_,_,e,_⟩:=x;exact bu e
 | dT kvs=>obtain⟨_,_,_,_,o,_,_,e,_⟩:=x;exact bu e
 | set S n=>obtain⟨o,_,_,_,e,_⟩:=x;exact bu e
 | ins C dx fs=>obtain⟨_,_,_,e,_⟩:=x;exact bu e
 | own y=>obtain⟨_,e⟩:=x;exact bu e
 | xd fs=>obtain⟨_,⟨_,_,_,e,_⟩,_⟩:=x;exact bu e
 | CZ lo hi=>obtain⟨_,_,_,e⟩:=x;exact bu e
 | ku ob u=>obtain⟨e,_⟩:=x;exact bu e
 | tX ps=>exact bu (show h.get? a=some _ from x)
 | met f y=>exact bu (show h.get? a=some _ from x)
 | ext φ=>obtain⟨_,⟨_,e⟩,_⟩:=x;exact bu e
theorem Paired.eI {α β:Type}{F G:α->β->Prop}:∀{l₁:List α}{l₂:List β},Paired F l₁ l₂->(∀a b,F a b->G a b)->Paired G l₁ l₂
 | _,_,.nil,_=>.nil
 | _,_,.cons r t,f=>.cons (f _ _ r) (Paired.eI t f)
def cK.kW (x:cK P w H h a o)(k:∀b u,(b=a\/H b=some (.own a))->h.get? b=some u->h'.get? b=some u)
  (ho:∀b,H b=some (.own a)->H' b=some (.own a))(ht:∀b xs,H b=some (.tup xs)->H' b=some (.tup xs)):cK P w H' h' a o:=by
 induction o with
 | lst xs=>obtain⟨z,aN,n,r,e⟩:=x;exact⟨z,aN,n,r,k _ _ (.inl rfl) e⟩
 | tup xs=>obtain⟨z,aN,r,ob,e,c⟩:=x;exact⟨z,aN,r,ob,k _ _ (.inl rfl) e,c⟩
 | dK kvs=>obtain⟨z,y,vs,r,ob,es,ep,e,c⟩:=x;exact⟨z,y,vs,r,ob,es,ep,k _ _ (.inl rfl) e,c⟩
 | dT kvs =>
  obtain⟨z,y,xs,r,ob,es,ep,e,c⟩:=x;exact⟨z,y,xs,Paired.eI r λp q z=>⟨z.1,ht _ _ z.2.1,z.2.2⟩,ob,es,ep,k _ _ (.inl rfl) e,c⟩
 | set S n=>obtain⟨ob,es,ep,t,e,c⟩:=x;exact⟨ob,es,ep,t,k _ _ (.inl rfl) e,c⟩
 | ins C dx fs =>
  obtain⟨d,z,ne,e,mA,⟨od,es,ep,e2,c⟩,r⟩:=x;exact⟨ho _ d,z,ne,k _ _ (.inl rfl) e,mA,⟨od,es,ep,k _ _ (.inr d) e2,c⟩,r⟩
 | own y=>obtain⟨ob,e⟩:=x;exact⟨ob,k _ _ (.inl rfl) e⟩
 | xd fs=>obtain⟨mA,⟨od,es,ep,e,c⟩,r⟩:=x;exact⟨mA,⟨od,es,ep,k _ _ (.inl rfl) e,c⟩,r⟩
 | CZ lo hi=>obtain⟨t,u,v,e⟩:=x;exact⟨t,u,v,k _ _ (.inl rfl) e⟩
 | ku ob u ih=>obtain⟨e,q⟩:=x;exact⟨k _ _ (.inl rfl) e,ih q⟩
 | tX ps =>
  have e:h.get? a=some { cls:=.none,data:=.fields ps }:=x;show h'.get? a=some { cls:=.none,data:=.fields ps };exact k a _ (.inl rfl) e
 | met f y =>
  have e:h.get? a=some (PySem.W.methodObj (.ref f) (.ref y)):=x;show h'.get? a=some (PySem.W.methodObj (.ref f) (.ref y));exact k a _ (.inl rfl) e
 | ext φ=>obtain⟨p,⟨o,e⟩,st⟩:=x;exact⟨st _ _ p λo q=>k _ _ (.inl rfl) q,⟨o,k _ _ (.inl rfl) e⟩,st⟩
theorem mi.lt (x:mi P w H h)(e:H a=some o):a < h.objs.size:=(x a o e).lt
def mi.fresh (x:mi P w H h)(e:h.objs.size<=a):H a=none:=by
 cases q:H a with
 | none=>rfl
 | some u=>exact absurd (gr (x.lt q) e) (jB _)
def mi.kept (x:mi P w H h)(k:∀b u,h.get? b=some u->h'.get? b=some u):mi P w H h':=λa o e =>
 (x a o e).kW (λb u _ q=>k b u q) (λ_ q=>q) λ_ _ q=>q
def mi.laid (x:mi P w H h)(k:∀b u,h.get? b=some u->h'.get? b=some u)(hp:h.objs.size<=a)(new:cK P w (upd H a o) h' a o):mi P w (upd H a o) h':=λb u e=>by
 have hn:=x.fresh hp;by_cases hb:b=a
 .subst hb;rw [ae] at e;cases e;exact new
 rw [ai hb] at e;exact(x b u e).kW (λc v _ q=>k c v q) (λc q=>by rw [ai (az q hn)];exact q) λc xs q=>by rw [ai (az q hn)];exact q
end
def Rd (H:Hp)(a:Addr)(u:HO):Prop:=H a=some u\/∃o,H a=some (.ku o u)
def Rd.of {H:Hp}{a:Addr}{u:HO}(h:H a=some u):Rd H a u:=.inl h
def Rd.ok {P:Program}{w:World}{H:Hp}{h:Heap}{a:Addr}{u:HO}(r:Rd H a u)(x:mi P w H h):cK P w H h a u:=by
 rcases r with r | ⟨o,r⟩
 .exact x a u r
 obtain⟨_,q⟩:=x a _ r;exact q
def Sr:Option HO->Prop
 | some (.lst _)=>True
 | some (.dK _)=>True
 | some (.dT _)=>True
 | some (.set _ _)=>True
 | some (.ins _ _ _)=>True
 | some (.ext _)=>True
 | _=>False
section
variable {P:Program}{w:World}{H:Hp}{h h':Heap}{x e:Addr}{o':HO}
def mi.write (ok:mi P w H h)(mu:Sr (H x))(he:e=x\/H e=some (.own x))(k:∀b u,b≠e->h.get? b=some u->h'.get? b=some u)(OT:∃u,h'.get? e=some u)
  (new:cK P w (upd H x o') h' x o'):mi P w (upd H x o') h':=λb u q=>by
 have Qo:∀c y,H c=some (.own y)->c≠x:=λc y r z=>by subst z;rw [r] at mu;exact mu
 have Vx:∀c xs,H c=some (.tup xs)->c≠x:=λc xs r z=>by subst z;rw [r] at mu;exact mu
 by_cases hb:b=x
 .subst hb;rw [ae] at q;cases q;exact new
 rw [ai hb] at q;by_cases NL:b=e
 .have q':H b=some (.own x):=by
   rcases he with z | z
   .exact absurd (NL.trans z) hb
   rw [NL];exact z
  rw [q] at q';cases q';obtain⟨v,hv⟩:=OT;exact⟨v,by rw [NL];exact hv⟩
 refine(ok b u q).kW (λc v hc r=>k c v ?_ r) (λc r=>by rw [ai (Qo c b r)];exact r) λc xs r=>by rw [ai (Vx c xs r)];exact r
 rcases hc with rfl | hc
 .exact NL
 rintro rfl;rcases he with z | z
 .exact Qo c b hc z
 rw [hc] at z;cases z;exact hb rfl
end
structure Un (fs ex:List Addr)(H H':Hp)(h h':Heap):Prop where
 keep:∀b o,h.get? b=some o->H b=none->b∉fs->b∉ex->h'.get? b=some o
 slot:∀b o,h.get? b=some o->H b=none->b∈fs->b∉ex->∃sl,h'.get? b=some { o with slots:=sl }
 free:∀b o,h.get? b=some o->H b=none->b∉ex->H' b=none
 there:∀b o,h.get? b=some o->b∉ex->∃o',h'.get? b=some o'
 ph:∀b xs,H b=some (.tup xs)->H' b=some (.tup xs)
 mS:∀b o u,H b=some (.ku o u)->H' b=some (.ku o u)
 nF:∀b ps,H b=some (.tX ps)->∃more,H' b=some (.tX (ps++more))
section
variable {fs IV ex RO:List Addr}{H H1 H2:Hp}{h h1 h2 h':Heap}{a x e:Addr}{o:HO}
def Un.any (u:Un fs ex H H1 h h1){b:Addr}{ob:Obj}(q:h.get? b=some ob)(n:H b=none)(hx:b∉ex):∃sl,h1.get? b=some { ob with slots:=sl }:=by
 by_cases hb:b∈fs
 .exact u.slot b ob q n hb hx
 exact⟨ob.slots,u.keep b ob q n hb hx⟩
def Un.trans (a:Un fs ex H H1 h h1)(b:Un fs ex H1 H2 h1 h2):Un fs ex H H2 h h2 where
 keep:=λc ob q n hc hx=>b.keep c ob (a.keep c ob q n hc hx) (a.free c ob q n hx) hc hx
 slot:=λc ob q n hc hx=>by
  obtain⟨sl,e1⟩:=a.slot c ob q n hc hx;obtain⟨U4,e2⟩:=b.slot c _ e1 (a.free c ob q n hx) hc hx;exact⟨U4,e2⟩
 free:=λc ob q n hx=>by
  obtain⟨o',e1⟩:=a.there c ob q hx;exact b.free c o' e1 (a.free c ob q n hx) hx
 there:=λc ob q hx=>by
  obtain⟨o',e1⟩:=a.there c ob q hx;exact b.there c o' e1 hx
 ph:=λc xs q=>b.ph c xs (a.ph c xs q)
 mS:=λc ob xs q=>b.mS c ob xs (a.mS c ob xs q)
 nF:=λc ps q=>by
  obtain⟨m1,e1⟩:=a.nF c ps q;obtain⟨m2,e2⟩:=b.nF c _ e1;exact⟨m1++m2,by rw [e2,Array.append_assoc]⟩
def Un.kept (k:∀b u,h.get? b=some u->h'.get? b=some u):Un fs ex H H h h' :=
 ⟨λb ob q _ _ _=>k b ob q,λb ob q _ _ _=>⟨ob.slots,k b ob q⟩,λ_ _ _ n _=>n,λb ob q _=>⟨ob,k b ob q⟩,λ_ _ q=>q,λ_ _ _ q=>q,λ_ ps q=>⟨#[],by rw [q];simp⟩⟩
def Un.refl:Un fs ex H H h h:=Un.kept λ_ _ q=>q
def Un.laid (k:∀b u,h.get? b=some u->h'.get? b=some u)(hp:h.objs.size<=a)(hn:H a=none):Un fs ex H (upd H a o) h h' where
 keep:=λb u q _ _ _=>k b u q
 slot:=λb u q _ _ _=>⟨u.slots,k b u q⟩
 free:=λb u q n _=>by rw [ai (bD (gr (bu q) hp))];exact n
 there:=λb u q _=>⟨u,k b u q⟩
 ph:=λb xs q=>by rw [ai (az q hn)];exact q
 mS:=λb u xs q=>by rw [ai (az q hn)];exact q
 nF:=λb ps q=>⟨#[],by rw [ai (az q hn),q];simp⟩
def Un.write (mu:Sr (H x))(he:e=x\/H e=some (.own x))(k:∀b u,b≠e->h.get? b=some u->h'.get? b=some u)(OT:∃u,h'.get? e=some u):Un fs ex H (upd H x o) h h':=by
 have hx:∀b,H b=none->b≠x:=λb n z=>by subst z;rw [n] at mu;exact mu
 have hb:∀b,H b=none->b≠e:=λb n z=>by
  subst z;rcases he with r | r
  .exact hx b n r
  rw [n] at r;cases r
 have hm:∀b u,H b=some u->¬Sr (some u)->b≠x:=λb u q nm z=>by subst z;rw [q] at mu;exact nm mu
 refine⟨λb u q n _ _=>k b u (hb b n) q,λb u q n _ _=>⟨u.slots,k b u (hb b n) q⟩,λb u q n _=>by rw [ai (hx b n)];exact n,λb u q _=>?_,
  λb xs q=>by rw [ai (hm b _ q λz=>z)];exact q,λb u xs q=>by rw [ai (hm b _ q λz=>z)];exact q,λb ps q=>⟨#[],by rw [ai (hm b _ q λz=>z),q];simp⟩⟩
 by_cases NL:b=e
 .subst NL;exact OT
 exact⟨u,k b u NL q⟩
def Un.mono (u:Un fs ex H H1 h h1)(hs:∀b∈fs,b∈IV)(hx:∀b∈ex,b∈RO):Un IV RO H H1 h h1 :=
 ⟨λb ob q n hb he=>u.keep b ob q n (λz=>hb (hs b z)) λz=>he (hx b z),λ_ _ q n _ he=>u.any q n λz=>he (hx _ z),λb ob q n he=>u.free b ob q n λz=>he (hx b z),λb ob q he=>u.there b ob q λz=>he (hx b z),u.ph,u.mS,u.nF⟩
end
def ID (h:Heap)(H:Hp):List Addr:=(List.range h.objs.size).filter λa=>(H a).isSome
def mQ (h:Heap)(H:Hp):Heap:=PySem.W.hideAll h (ID h H)
def uS (h:Heap)(H:Hp):(mQ h H).objs.size=h.objs.size:=PySem.W.hideAll_size _ _
def yy {h:Heap}{H:Hp}{b:Addr}{o:Obj}(e:h.get? b=some o)(n:H b=none):(mQ h H).get? b=some o :=
 PySem.W.hideAll_get _ e λhm=>by
  have q:(H b).isSome=true:=(lS.mp hm).2;rw [n] at q;simp at q
def Cb {h:Heap}{H:Hp}{b:Addr}{o:Obj}(e:(mQ h H).get? b=some o):h.get? b=some o/\H b=none:=by
 have e':h.get? b=some o:=PySem.W.of_hideAll (ID h H) e;refine⟨e',?_⟩;cases q:H b with
 | none=>rfl
 | some x =>
  have hm:b∈ID h H:=lS.mpr ⟨jC.mpr (bu e'),by simp [q]⟩;have z:(mQ h H).get? b=none:=PySem.W.hideAll_none (ID h H) hm;rw [z] at e;cases e
def KA (g h:Heap)(L:Addr):List (Addr×Obj):=(List.range h.objs.size).filterMap λa=>if a=L\/(g.get? a).isSome=true then none else (h.get? a).map λo=>(a,o)
def rest (g h:Heap)(L d:Addr):List (Addr×Obj):=(KA g h L).filter λp=>decide (p.1≠d)
structure Mod (K:a8)(mg:Str->Option Value)(base:Heap):Prop where
 QQ:K.In base
 glob:base.Ns mainGlobals mg
 blt:∃mb,base.Ns builtinsNs mb/\∀x:Str,x ≠ "__name__" -> mb x=bootBuiltins x
 nolimit:base.NoLimit
structure Cx where
 prog:Program
 w:World
 K:a8
 mg:Str->Option Value
 base:Heap
 A:Around
 N:List Str
 s₀:Shared
 H₀:Hp
 env:Env
 outer:List Env
 stack:List Env
 ex:List Addr
 fn:Str->Bool
 calm:Bool
 pn:List (Addr×Obj)
 xe:Value->Shared->Prop
def DU (l:List Env):List Addr:=l.filterMap (·.frame)
abbrev Cx.fs (X:Cx):List Addr:=DU X.outer
def Uo (sc:Scope)(x:Str):Prop:=sc.names.lookup x=some .local\/sc.names.lookup x=some .cell\/sc.names.lookup x=some .free
def Loc (sc:Scope)(x:Str):Prop:=sc.names.lookup x=some .local\/sc.names.lookup x=some .cell
def Look (env:Env)(h:Heap)(m:Str->Option Value)(x:Str)(u:Value):Prop :=
 (env.kindOf x=some .local/\m x=some u)\/((env.kindOf x=some .cell\/env.kindOf x=some .free)/\∃c,env.cells.lookup x=some c/\h.IsCell c (some u))
structure Cx.Ok (X:Cx):Prop where
 mod:Mod X.K X.mg X.base
 kind:X.env.scope.kind=.function
 glob:X.env.globals=mainGlobals
 blt:X.env.builtins=builtinsNs
 above:X.s₀.heap.objs.size<=X.env.locals
 inj:∀x y c,X.env.cells.lookup x=some c->X.env.cells.lookup y=some c->x=y
 has:∀x,(X.env.kindOf x=some .cell\/X.env.kindOf x=some .free)->∃c,X.env.cells.lookup x=some c
 Sf:∀x c,X.fn x=true->X.env.cells.lookup x=some c->X.s₀.heap.objs.size<=c
 hd:X.calm=true->X.A.handled=none
 frames:X.A.frames=some X.stack
 SO:X.stack=X.outer\/(X.stack=X.env::X.outer/\X.env.frame=some X.env.locals)
 O2:∀b∈X.ex,b≠X.env.locals/\∀x c,X.env.cells.lookup x=some c->c≠b
 bs:∀b o,X.base.get? b=some o->X.s₀.heap.get? b=some o/\X.H₀ b=none
 Jb:X.base.objs.size<=X.s₀.heap.objs.size
 GO:∀b o,X.base.get? b=some o->b∉X.ex
 DZ:∀b∈X.ex,b∉X.fs
 pL:X.s₀.heap.FunFrames X.base X.outer
 Lx:∀b∈X.fs,X.H₀ b=none
structure Inv (X:Cx)(ag:List (Addr×Obj))(σ:List (Option V))(H:Hp)(s:Shared):Prop where
 ok:X.Ok
 os:s.os=X.s₀.os
 bare:AllBare s.gens
 base:Un X.fs X.ex X.H₀ H X.s₀.heap s.heap
 loc:∃m,s.heap.Ns X.env.locals m/\∀(i:Nat)(x:Str)(v:V),X.N[i]?=some x->σ[i]?=some (some v)->Uo X.env.scope x->∃u,RelV v u/\Look X.env s.heap m x u
 cell:∀x c,X.env.cells.lookup x=some c->∃v,s.heap.IsCell c v
 free:H X.env.locals=none
 lD:∀x c,X.env.cells.lookup x=some c->H c=none
 pin:∀p∈X.pn++ag,s.heap.get? p.1=some p.2/\H p.1=none/\p.1≠X.env.locals/\p.1∉X.fs/\∀v,p.2.data≠.cell v
 bY:mi X.prog X.w H s.heap
 len:σ.length=X.N.length
section
variable {X:Cx}{ag:List (Addr×Obj)}{σ:List (Option V)}{H H':Hp}{s:Shared}{h':Heap}
def Cx.Ok.VB (ok:X.Ok){b:Addr}{o:Obj}(e:X.base.get? b=some o):b∉X.fs:=λhb=>by
 have:=(ok.pL.mem hb).1;rw [e] at this;cases this
theorem Inv.bs (I:Inv X ag σ H s):∀b o,X.base.get? b=some o->s.heap.get? b=some o/\H b=none:=λb o e =>
 ⟨I.base.keep b o (I.ok.bs b o e).1 (I.ok.bs b o e).2 (I.ok.VB e) (I.ok.GO b o e),I.base.free b o (I.ok.bs b o e).1 (I.ok.bs b o e).2 (I.ok.GO b o e)⟩
def Inv.bk (I:Inv X ag σ H s):∀b o,X.base.get? b=some o->s.heap.get? b=some o:=λb o e=>(I.bs b o e).1
theorem Inv.mod (I:Inv X ag σ H s):Mod X.K X.mg X.base:=I.ok.mod
def Inv.wU (I:Inv X ag σ H s):X.K.In s.heap:=I.ok.mod.QQ.keeps I.bk
theorem Inv.nolimit (I:Inv X ag σ H s):s.heap.NoLimit:=I.ok.mod.nolimit.keeps I.bk
def Inv.fr (I:Inv X ag σ H s):∃m,Fr X.base X.env.locals s.heap m :=
 let ⟨m,hn,_⟩:=I.loc
 ⟨m,hn,I.bk,dH I.ok.Jb I.ok.above⟩
theorem Inv.lt (I:Inv X ag σ H s):X.env.locals < s.heap.objs.size:=let ⟨_,hn,_⟩:=I.loc;hn.lt
def Inv.sz (I:Inv X ag σ H s):X.s₀.heap.objs.size<=s.heap.objs.size:=dH I.ok.above (i7 I.lt)
def Inv.VA (I:Inv X ag σ H s){a:Addr}(h:s.heap.objs.size<=a):a∉X.fs:=λhb=>by
 obtain⟨_,o,ho,_⟩:=I.ok.pL.mem hb;exact absurd (gr (bu ho) (dH I.sz h)) (jB _)
def Inv.Ou (I:Inv X ag σ H s):∀x c,X.env.cells.lookup x=some c->c≠X.env.locals:=λx c e z=>by
 obtain⟨v,o,ho,hd⟩:=I.cell x c e;obtain⟨m,⟨o',es,ep,Hl,DM,_⟩,_⟩:=I.loc;rw [z,Hl] at ho;cases ho;rw [DM] at hd;cases hd
theorem Inv.pL (I:Inv X ag σ H s):s.heap.FunFrames X.base X.outer:=by
 have all:∀(l:List Env),(∀b∈DU l,b∈X.fs)->X.s₀.heap.FunFrames X.base l->s.heap.FunFrames X.base l:=by
  intro l
  induction l with
  | nil=>intro _ _;trivial
  | cons env r ih =>
   intro hs hl;obtain⟨hk,⟨L,o,hf,hn,ho,hd⟩,hr⟩:=hl;have hL:L∈X.fs:=hs L (by unfold DU;rw [rA,hf];exact cI);obtain⟨sl,e⟩:=I.base.slot L o ho (I.ok.Lx L hL) hL λz=>I.ok.DZ L z hL;exact⟨hk,⟨L,_,hf,hn,e,hd⟩,ih (λb hb=>hs b (by unfold DU;rw [rA,hf];exact cV _ hb)) hr⟩
 exact all X.outer (λ_ hb=>hb) I.ok.pL
theorem Inv.stack (I:Inv X ag σ H s):s.heap.FunFrames X.base X.stack:=by
 rcases I.ok.SO with e | ⟨e,hf⟩
 .rw [e];exact I.pL
 rw [e];obtain⟨m,hn,_⟩:=I.loc;refine .cons (by rw [I.ok.kind];decide) hf hn ?_ I.pL;exact Heap.get?_none_of_le (dH I.ok.Jb I.ok.above)
def Inv.zO (I:Inv X ag σ H s):∀b∈DU X.stack,b∈X.env.locals::X.fs:=λb hb=>by
 rcases I.ok.SO with e | ⟨e,hf⟩
 .rw [e] at hb;exact cV _ hb
 rw [e] at hb;unfold DU at hb;rw [rA,hf] at hb;exact hb
def Inv.BE (I:Inv X ag σ H s):∀b∈DU X.stack,H b=none:=λb hb=>by
 rcases bX.mp (I.zO b hb) with e | hb
 .rw [e];exact I.free
 obtain⟨_,o,ho,_⟩:=I.ok.pL.mem hb;exact I.base.free b o ho (I.ok.Lx b hb) λz=>I.ok.DZ b z hb
def Inv.step {g':Array GenState}{t':Nat}{d':Drawn}{ch:List Addr}(I:Inv X ag σ H s)
  (IM:∀b∈ch,(b∈X.ex\/X.s₀.heap.objs.size<=b)/\b≠X.env.locals/\(∀x c,X.env.cells.lookup x=some c->c≠b)/\∀p∈X.pn++ag,p.1≠b)
  (keep:∀b o,b≠X.env.locals->b∉X.fs->b∉ch->s.heap.get? b=some o->H b=none->h'.get? b=some o)
  (slot:∀b o,b≠X.env.locals->b∈X.fs->b∉ch->s.heap.get? b=some o->H b=none->∃sl,h'.get? b=some { o with slots:=sl })(free:∀b o,b∉ch->s.heap.get? b=some o->H b=none->H' b=none)
  (there:∀b o,b∉ch->s.heap.get? b=some o->∃o',h'.get? b=some o')
  (ph:∀b xs,H b=some (.tup xs)->H' b=some (.tup xs))(mS:∀b o u,H b=some (.ku o u)->H' b=some (.ku o u))(nF:∀b ps,H b=some (.tX ps)->∃more,H' b=some (.tX (ps++more)))
  (ns:∀m,s.heap.Ns X.env.locals m->h'.Ns X.env.locals m)(bY:mi X.prog X.w H' h')(hg:AllBare g') :
  Inv X ag σ H' { s with heap:=h',gens:=g',drawn:=d',toks:=t' }:=by
 have Zg:∀b o,X.s₀.heap.get? b=some o->b≠X.env.locals:=λb o e=>bD (gr (bu e) I.ok.above);have OK:∀b o,X.s₀.heap.get? b=some o->b∉X.ex->b∉ch:=λb o e hx hb=>by
  rcases (IM b hb).1 with z | z
  .exact hx z
  exact absurd (gr (bu e) z) (jB _)
 have cellK:∀x c,X.env.cells.lookup x=some c->∀v,s.heap.IsCell c v->h'.IsCell c v:=λx c e v ⟨o,ho,hd⟩=>by
  have Qu:c∉ch:=λz=>(IM c z).2.2.1 x c e rfl;by_cases hc:c∈X.fs
  .obtain⟨sl,q⟩:=slot c o (I.Ou x c e) hc Qu ho (I.lD x c e);exact⟨_,q,hd⟩
  exact⟨o,keep c o (I.Ou x c e) hc Qu ho (I.lD x c e),hd⟩
 refine⟨I.ok,I.os,hg,⟨λb o e n hb hx=>?_,λb o e n hb hx=>?_,λb o e n hx=>?_,λb o e hx=>?_,λb xs e=>ph b xs (I.base.ph b xs e),λb o xs e=>mS b o xs (I.base.mS b o xs e),λb ps e=>?_⟩,?_,λx c e=>?_,?_,λx c e=>?_,λp hp=>?_,bY,I.len⟩
 .exact keep b o (Zg b o e) hb (OK b o e hx) (I.base.keep b o e n hb hx) (I.base.free b o e n hx)
 .obtain⟨sl,e1⟩:=I.base.slot b o e n hb hx;obtain⟨U4,e2⟩:=slot b _ (Zg b o e) hb (OK b o e hx) e1 (I.base.free b o e n hx);exact⟨U4,e2⟩
 .obtain⟨o',e1⟩:=I.base.there b o e hx;exact free b o' (OK b o e hx) e1 (I.base.free b o e n hx)
 .obtain⟨o',e1⟩:=I.base.there b o e hx;exact there b o' (OK b o e hx) e1
 .obtain⟨m1,e1⟩:=I.base.nF b ps e;obtain⟨m2,e2⟩:=nF b _ e1;exact⟨m1++m2,by rw [e2,Array.append_assoc]⟩
 .obtain⟨m,hn,hl⟩:=I.loc;refine⟨m,ns m hn,λi x v e1 e2 e3=>?_⟩;obtain⟨u,r,l⟩:=hl i x v e1 e2 e3;refine⟨u,r,?_⟩;rcases l with l | ⟨k,c,e,z⟩
  .exact .inl l
  exact .inr ⟨k,c,e,cellK x c e _ z⟩
 .obtain⟨v,z⟩:=I.cell x c e;exact⟨v,cellK x c e v z⟩
 .obtain⟨m,⟨o,_,_,ho,_⟩,_⟩:=I.loc;exact free _ o (λz=>(IM _ z).2.1 rfl) ho I.free
 .obtain⟨v,o,ho,hd⟩:=I.cell x c e;exact free c o (λz=>(IM c z).2.2.1 x c e rfl) ho (I.lD x c e)
 obtain⟨e,n,ne,nf,d⟩:=I.pin p hp;have Qu:p.1∉ch:=λz=>(IM p.1 z).2.2.2 p hp rfl;exact⟨keep p.1 p.2 ne nf Qu e n,free p.1 p.2 Qu e n,ne,nf,d⟩
def Inv.un {t':Nat}(I:Inv X ag σ H s)(u:Un X.fs [] H H' s.heap h')(bY:mi X.prog X.w H' h'):Inv X ag σ H' { s with heap:=h',toks:=t' }:=by
 obtain⟨m,⟨o,es,ep,ho,r⟩,_⟩:=id I.loc;obtain⟨sl,hL⟩:=u.any ho I.free (by simp);exact I.step (g':=s.gens) (d':=s.drawn) (ch:=[]) (λ_ z=>nomatch z) (λb o _ hb _ e n=>u.keep b o e n hb (by simp)) (λb o _ hb _ e n=>u.slot b o e n hb (by simp)) (λb o _ e n=>u.free b o e n (by simp)) (λb o _ e=>u.there b o e (by simp)) u.ph u.mS u.nF (λm' hm=>by
  obtain⟨o',ij,Xu,Hl,r'⟩:=hm;rw [ho] at Hl;cases Hl;exact⟨_,ij,Xu,hL,r'⟩) bY I.bare
def Inv.call {g':Array GenState}{t':Nat}{d':Drawn}{ch:List Addr}(I:Inv X ag σ H s)(u:Un (DU X.stack) ch H H' s.heap h')(bY:mi X.prog X.w H' h')(hg:AllBare g')
  (IM:∀b∈ch,(b∈X.ex\/X.s₀.heap.objs.size<=b)/\b≠X.env.locals/\(∀x c,X.env.cells.lookup x=some c->c≠b)/\∀p∈X.pn++ag,p.1≠b) :
  Inv X ag σ H' { s with heap:=h',gens:=g',drawn:=d',toks:=t' }:=by
 obtain⟨m,⟨o,es,ep,ho,r⟩,_⟩:=id I.loc;obtain⟨sl,hL⟩:=u.any ho I.free λz=>(IM _ z).2.1 rfl;exact I.step (ch:=ch) IM (λb o hL hb hc e n=>u.keep b o e n (λz=>(bX.mp (I.zO b z)).elim hL hb) hc) (λb o _ _ hc e n=>u.any e n hc) (λb o hc e n=>u.free b o e n hc) (λb o hc e=>u.there b o e hc) u.ph u.mS u.nF (λm' hm=>by
  obtain⟨o',ij,Xu,Hl,r'⟩:=hm;rw [ho] at Hl;cases Hl;exact⟨_,ij,Xu,hL,r'⟩) bY hg
def Inv.turned {t':Nat}{it:Addr}(I:Inv X ag σ H s)(k:∀b o,b≠it->s.heap.get? b=some o->h'.get? b=some o)(hn:H it=none)(hL:it≠X.env.locals)
  (h1:it∈X.ex\/X.s₀.heap.objs.size<=it)(h2:∀x c,X.env.cells.lookup x=some c->c≠it)(h3:∀p∈X.pn++ag,p.1≠it):Inv X ag σ H { s with heap:=h',toks:=t' }:=by
 have Ze:∀b u,H b=some u->b≠it:=λb u e z=>by rw [z,hn] at e;cases e
 refine I.step (g':=s.gens) (d':=s.drawn) (ch:=[it]) (λb hb=>?_) (λb o _ _ hc e _=>k b o (λz=>hc (by simp [z])) e) (λb o _ _ hc e _=>⟨o.slots,k b o (λz=>hc (by simp [z])) e⟩) (λ_ _ _ _ n=>n)
  (λb o hc e=>⟨o,k b o (λz=>hc (by simp [z])) e⟩) (λ_ _ e=>e) (λ_ _ _ e=>e) (λb ps e=>⟨#[],by rw [e];simp⟩) (λm hm=>?_) (λb u e=>?_) I.bare
 .have e:b=it:=by simpa using hb
  subst e;exact⟨h1,hL,h2,h3⟩
 .obtain⟨o,es,ep,ho,r⟩:=hm;exact⟨o,es,ep,k _ o (fk hL) ho,r⟩
 refine(I.bY b u e).kW (λc v hc q=>k c v ?_ q) (λ_ q=>q) λ_ _ q=>q;rcases hc with z | z
 .rw [z];exact Ze b u e
 exact Ze c _ z
def Inv.tok (I:Inv X ag σ H s) (t:Nat):Inv X ag σ H { s with toks:=t }:=I.un (h':=s.heap) (t':=t) Un.refl I.bY
theorem Inv.kept {t':Nat}(I:Inv X ag σ H s)(k:∀b u,s.heap.get? b=some u->h'.get? b=some u):Inv X ag σ H { s with heap:=h',toks:=t' }:=I.un (Un.kept k) (I.bY.kept k)
theorem Inv.laid {a:Addr}{o:HO}{t':Nat}(I:Inv X ag σ H s)(k:∀b u,s.heap.get? b=some u->h'.get? b=some u)(hp:s.heap.objs.size<=a)(new:cK X.prog X.w (upd H a o) h' a o) :
  Inv X ag σ (upd H a o) { s with heap:=h',toks:=t' }:=I.un (Un.laid k hp (I.bY.fresh hp)) (I.bY.laid k hp new)
theorem Inv.write {x e:Addr}{o:HO}{t':Nat}(I:Inv X ag σ H s)(mu:Sr (H x))(he:e=x\/H e=some (.own x))(k:∀b u,b≠e->s.heap.get? b=some u->h'.get? b=some u)(OT:∃u,h'.get? e=some u)
  (new:cK X.prog X.w (upd H x o) h' x o):Inv X ag σ (upd H x o) { s with heap:=h',toks:=t' }:=I.un (Un.write mu he k OT) (I.bY.write mu he k OT new)
def Inv.B5 {kc:List (Addr×Obj)}(I:Inv X ag σ H s)(h:∀p∈kc,s.heap.get? p.1=some p.2/\H p.1=none/\p.1≠X.env.locals/\p.1∉X.fs/\∀v,p.2.data≠.cell v):Inv X kc σ H s :=
 ⟨I.ok,I.os,I.bare,I.base,I.loc,I.cell,I.free,I.lD,λp hp=>(cg.mp hp).elim (λz=>I.pin p (iG _ z)) (h p),I.bY,I.len⟩
def yk {N:List Str}(hN:N.Nodup){i j:Nat}{x:Str}(a:N[i]?=some x)(b:N[j]?=some x):i=j:=by
 obtain⟨h1,e1⟩:=bj.mp a;obtain⟨h2,e2⟩:=bj.mp b;exact(vp hN).mp (e1.trans e2.symm)
def uA {M:Model}{A:Around}{E:Value->Shared->Prop}{i:Nat}{x:Str}{v:V}{u:Value}{Q:Unit->Shared->Prop}(I:Inv X ag σ H s)(hN:X.N.Nodup)(hi:X.N[i]?=some x)(hx:Loc X.env.scope x)(r:RelV v u)
  (h:∀s',Inv X ag (σ.set i (some v)) H s'->(∃a,Heap.SameBut a s.heap s'.heap/\(a=X.env.locals\/X.env.cells.lookup x=some a))->Q () s')(hf:X.fn x=true\/X.env.scope.names.lookup x=some .local:=by first | exact .inl rfl | exact .inr rfl | assumption):wpAny M A (storeName X.env x u) Q E s:=by
 obtain⟨m,hn,hl⟩:=id I.loc;have WZ:(X.env.scope.kind == .class || (X.env.scope.kind == .module && X.env.locals != X.env.globals))=false:=by rw [I.ok.kind];rfl
 have Z0:i < σ.length:=by rw [I.len];exact(bj.mp hi).1
 have Ou:=I.Ou;have tracked:∀{a:Addr}{h':Heap},(∃o,s.heap.get? a=some o/\H a=none)->Heap.SameBut a s.heap h'->mi X.prog X.w H h':=λ{a h'} ha hs b ob e=>by
  obtain⟨_,_,oj⟩:=ha;refine(I.bY b ob e).kW (λc w' hc q=>(hs.2 c ?_).trans q) (λ_ q=>q) λ_ _ q=>q;rintro rfl;rcases hc with rfl | hc
  .rw [oj] at e;cases e
  rw [oj] at hc;cases hc
 rcases hx with hk | hk
 .refine wpAny_storeName_local hk hn (λh' Ka hs=>?_) WZ;obtain⟨oL,_,_,Rc,_⟩:=id hn;refine h _ ⟨I.ok,I.os,I.bare,⟨λb o e n hb hx=>?_,λb o e n hb hx=>?_,I.base.free,λb o e hx=>?_,I.base.ph,I.base.mS,I.base.nF⟩,⟨_,Ka,λj y v' e1 e2 e3=>?_⟩,λy c e=>?_,I.free,I.lD,λp hp=>?_,tracked ⟨oL,Rc,I.free⟩ hs,by simpa using I.len⟩ ⟨_,hs,.inl rfl⟩
  .exact(hs.2 b (bD (gr (bu e) I.ok.above))).trans (I.base.keep b o e n hb hx)
  .obtain⟨sl,e1⟩:=I.base.slot b o e n hb hx;exact⟨sl,(hs.2 b (bD (gr (bu e) I.ok.above))).trans e1⟩
  .obtain⟨o',e1⟩:=I.base.there b o e hx;exact⟨o',(hs.2 b (bD (gr (bu e) I.ok.above))).trans e1⟩
  .by_cases hj:j=i
   .subst hj;rw [hi] at e1;cases e1;rw [List.getElem?_set_self Z0] at e2;cases e2;exact⟨u,r,.inl ⟨hk,by simp⟩⟩
   rw [List.getElem?_set_ne (fk hj)] at e2;obtain⟨u',r',q⟩:=hl j y v' e1 e2 e3;refine⟨u',r',?_⟩;rcases q with ⟨k,e⟩ | ⟨k,c,e,z⟩
   .refine .inl ⟨k,?_⟩;have:y≠x:=λe=>hj (yk hN e1 (e ▸ hi));simp [this,e]
   exact .inr ⟨k,c,e,z.sameBut hs (Ou y c e)⟩
  .obtain⟨w',z⟩:=I.cell y c e;exact⟨w',z.sameBut hs (Ou y c e)⟩
  obtain⟨e,n,ne,nf,d⟩:=I.pin p hp;exact⟨(hs.2 p.1 ne).trans e,n,ne,nf,d⟩
 have WR:X.fn x=true:=by
  rcases hf with z | z
  .exact z
  rw [z] at hk;cases hk
 obtain⟨c,hc⟩:=I.ok.has x (.inl hk);obtain⟨w',z⟩:=I.cell x c hc;refine wpAny_storeName_cell I.ok.kind hk hc z (λh' mR hs=>?_);obtain⟨oc,zt,WE⟩:=id z;refine h { s with heap:=h' } ⟨I.ok,I.os,I.bare,⟨λb o e n hb hx=>?_,λb o e n hb hx=>?_,I.base.free,λb o e hx=>?_,I.base.ph,I.base.mS,I.base.nF⟩,⟨m,hn.sameBut hs (fk (Ou x c hc)),λj y v' e1 e2 e3=>?_⟩,λy c' e=>?_,I.free,I.lD,λp hp=>?_,tracked ⟨oc,zt,I.lD x c hc⟩ hs,by simpa using I.len⟩ ⟨c,hs,.inr hc⟩
 .exact(hs.2 b (bD (gr (bu e) (I.ok.Sf x c WR hc)))).trans (I.base.keep b o e n hb hx)
 .obtain⟨sl,e1⟩:=I.base.slot b o e n hb hx;exact⟨sl,(hs.2 b (bD (gr (bu e) (I.ok.Sf x c WR hc)))).trans e1⟩
 .obtain⟨o',e1⟩:=I.base.there b o e hx;exact⟨o',(hs.2 b (bD (gr (bu e) (I.ok.Sf x c WR hc)))).trans e1⟩
 .by_cases hj:j=i
  .subst hj;rw [hi] at e1;cases e1;rw [List.getElem?_set_self Z0] at e2;cases e2;exact⟨u,r,.inr ⟨.inl hk,c,hc,mR⟩⟩
  rw [List.getElem?_set_ne (fk hj)] at e2;obtain⟨u',r',q⟩:=hl j y v' e1 e2 e3;refine⟨u',r',?_⟩;rcases q with q | ⟨k,c',e,z'⟩
  .exact .inl q
  refine .inr ⟨k,c',e,z'.sameBut hs ?_⟩;rintro rfl;exact hj (yk hN e1 (I.ok.inj _ _ _ e hc ▸ hi))
 .by_cases Z5:c'=c
  .subst Z5;exact⟨_,mR⟩
  obtain⟨w2,z2⟩:=I.cell y c' e;exact⟨w2,z2.sameBut hs Z5⟩
 obtain⟨e,n,ne,nf,d⟩:=I.pin p hp;refine⟨(hs.2 p.1 ?_).trans e,n,ne,nf,d⟩;intro q;rw [q,zt] at e;have q':oc=p.2:=iu e;exact d w' (by rw [<-q'];exact WE)
def rN {M:Model}{A:Around}{E:Value->Shared->Prop}{i:Nat}{x:Str}{v:V}{u:Value}{Q:Unit->Shared->Prop}(I:Inv X ag σ H s)(hN:X.N.Nodup)(hi:X.N[i]?=some x)(hx:Loc X.env.scope x)(r:RelV v u)
  (h:∀s',Inv X ag (σ.set i (some v)) H s'->Q () s')(hf:X.fn x=true\/X.env.scope.names.lookup x=some .local:=by first | exact .inl rfl | exact .inr rfl | assumption):wpAny M A (storeName X.env x u) Q E s :=
 uA I hN hi hx r (λs' I' _=>h s' I') hf
def Inv.LO {s':Shared}{ch:List Addr}(I:Inv X ag σ H s)(ho:s'.os=s.os)(u:Un (DU X.stack) ch H H' s.heap s'.heap)(bY:mi X.prog X.w H' s'.heap)(hg:AllBare s'.gens)
  (IM:∀b∈ch,(b∈X.ex\/X.s₀.heap.objs.size<=b)/\b≠X.env.locals/\(∀x c,X.env.cells.lookup x=some c->c≠b)/\∀p∈X.pn++ag,p.1≠b):Inv X ag σ H' s':=by
 obtain⟨h',g',d',t',o'⟩:=s';have e:o'=s.os:=ho;subst e;exact I.call (g':=g') (t':=t') (d':=d') u bY hg IM
end
abbrev XK:=Value->Option Addr->Hp->Prop
abbrev St:=List (Option V)
abbrev aM (a:Addr):Option V:=some (.ref a)
abbrev VK:=V->Hp->Prop
abbrev TE:=St->Hp->VK->Prop
abbrev TT:=St->Hp->(Bool->Hp->Prop)->Prop
abbrev TA:=St->Hp->(List V->Hp->Prop)->Prop
structure Ends where
 nx:St->Hp->Prop
 rt:VK
 bk:St->Hp->Prop:=λ_ _=>False
 ct:St->Hp->Prop:=λ_ _=>False
abbrev TS:=Ends->St->Hp->Prop
def EP (X:Cx)(ag:List (Addr×Obj))(σ:St)(Q:VK)(u:Value)(s':Shared):Prop:=∃v H',Inv X ag σ H' s'/\RelV v u/\Q v H'
def TP (X:Cx)(ag:List (Addr×Obj))(σ:St)(Q:Bool->Hp->Prop)(b:Bool)(s':Shared):Prop:=∃H',Inv X ag σ H' s'/\Q b H'
def AP (X:Cx)(ag:List (Addr×Obj))(σ:St)(Q:List V->Hp->Prop)(us:List Value)(s':Shared):Prop:=∃vs H',Inv X ag σ H' s'/\aY vs us/\Q vs H'
def SP (X:Cx)(ag:List (Addr×Obj))(D:Ends)(f:Flow)(s':Shared):Prop :=
 match f with
 | .next=>∃σ' H',Inv X ag σ' H' s'/\D.nx σ' H'
 | .brk=>∃σ' H',Inv X ag σ' H' s'/\D.bk σ' H'
 | .cont=>∃σ' H',Inv X ag σ' H' s'/\D.ct σ' H'
 | .ret u=>∃v σ' H',Inv X ag σ' H' s'/\RelV v u/\D.rt v H'
def PE (X:Cx)(e:Expr)(t:TE):Prop :=
 ∀(ag:List (Addr×Obj))(s:Shared)(σ:St)(H:Hp)(Q:VK),Inv X ag σ H s->t σ H Q->wpAny (model X.prog X.w) X.A (eval e X.env) (EP X ag σ Q) X.xe s
def PT (X:Cx)(e:Expr)(t:TT):Prop :=
 ∀(ag:List (Addr×Obj))(s:Shared)(σ:St)(H:Hp)(Q:Bool->Hp->Prop),Inv X ag σ H s->t σ H Q->wpAny (model X.prog X.w) X.A (isTrue e X.env (eval e X.env)) (TP X ag σ Q) X.xe s
def PW (X:Cx)(e:Expr)(t:TT):Prop :=
 ∀(whole:Sem Value)(ag:List (Addr×Obj))(s:Shared)(σ:St)(H:Hp)(Q:Bool->Hp->Prop),Inv X ag σ H s->t σ H Q->wpAny (model X.prog X.w) X.A (isTrue e X.env whole) (TP X ag σ Q) X.xe s
def PW.pt {X:Cx}{e:Expr}{t:TT}(h:PW X e t):PT X e t:=h _
def PA (X:Cx)(es:List Expr)(t:TA):Prop :=
 ∀(pos:Pos)(ag:List (Addr×Obj))(s:Shared)(σ:St)(H:Hp)(Q:List V->Hp->Prop),Inv X ag σ H s->t σ H Q->wpAny (model X.prog X.w) X.A (spliced (backTo pos (starEach es X.env))) (AP X ag σ Q) X.xe s
def PS (X:Cx)(st:Stmt)(t:TS):Prop :=
 ∀(ag:List (Addr×Obj))(s:Shared)(σ:St)(H:Hp)(D:Ends),Inv X ag σ H s->t D σ H->wpAny (model X.prog X.w) X.A (exec st X.env) (SP X ag D) X.xe s
def Bj (X:Cx)(st:List Stmt)(t:TS):Prop :=
 ∀(ag:List (Addr×Obj))(s:Shared)(σ:St)(H:Hp)(D:Ends),Inv X ag σ H s->t D σ H->wpAny (model X.prog X.w) X.A (execs st X.env) (SP X ag D) X.xe s
def cW {α:Type}{t:Sem α}{Q Q':α->Shared->Prop}{M:Model}{A:Around}{E:Value->Shared->Prop}{s:Shared}(h:wpAny M A t Q E s)(hQ:∀a s,Q a s->Q' a s):wpAny M A t Q' E s:=dB h hQ λ_ _ x=>x
section
variable {X:Cx}
def bin {a b:Expr}{ta tb:TE}(ha:PE X a ta)(hb:PE X b tb){ag:List (Addr×Obj)}{s:Shared}{σ:St}{H:Hp}{R:V->V->Hp->Prop}(I:Inv X ag σ H s)(h:ta σ H λx H1=>tb σ H1 λy H2=>R x y H2)
  {α:Type}{Q:α->Shared->Prop}{f:Value->Value->Sem α}
  (hf:∀v u s2 x y H2,Inv X ag σ H2 s2->RelV x v->RelV y u->R x y H2->wpAny (model X.prog X.w) X.A (f v u) Q X.xe s2) :
  wpAny (model X.prog X.w) X.A (eval a X.env) (λv s₁=>wpAny (model X.prog X.w) X.A (eval b X.env) (λu s₂=>wpAny (model X.prog X.w) X.A (f v u) Q X.xe s₂) X.xe s₁) X.xe s:=by
 refine cW (ha ag s σ H _ I h) λv s1 ⟨x,H1,I1,r1,q1⟩=>?_;refine cW (hb ag s1 σ H1 _ I1 q1) λu s2 ⟨y,H2,I2,r2,q2⟩=>?_;exact hf v u s2 x y H2 I2 r1 r2 q2
def gC (i:Nat):TE:=λσ H Q=>∃v,σ[i]?=some (some v)/\Q v H
def tC (v:V):TE:=λ_ H Q=>Q v H
def MS {i:Nat}{x:Str}{pos:Pos}(hN:X.N[i]?=some x)(hv:Uo X.env.scope x)(hd:(x == ("__debug__":Str))=false:=by decide)(wY:(x == ("__classdict__":Str))=false:=by decide):PE X (.Name x pos) (gC i):=by
 intro ag s σ H Q I h;obtain⟨v,e,h⟩:=h;obtain⟨m,hn,hl⟩:=I.loc;obtain⟨u,r,l⟩:=hl i x v hN e hv;have fin:EP X ag σ Q u s:=⟨v,H,I,r,h⟩;rcases l with ⟨hk,hm⟩ | ⟨hk,c,hc,jq⟩
 .exact wpAny_Name (vB I.ok.kind hk hn hm fin) hd
 rcases hk with hk | hk
 .exact wpAny_Name (wpAny_loadName_cell I.ok.kind hk hc jq fin) hd
 exact wpAny_Name (wpAny_loadName_free I.ok.kind hk hc jq fin wY) hd
def ar {i j pos}:PE X (.Constant (.int i) j pos) (tC (.int i)):=λ_ _ _ H _ I h=>wpAny_Constant_int ⟨.int i,H,I.tok _,⟨_,rfl⟩,h⟩
def dU {b j pos}:PE X (.Constant (.bool b) j pos) (tC (.bl b)):=λ_ _ _ H _ I h=>Constant_bool ⟨.bl b,H,I,rfl,h⟩
def Ai {j pos}:PE X (.Constant .none j pos) (tC .eU):=λ_ _ _ H _ I h=>Constant_none ⟨.eU,H,I,rfl,h⟩
def cC {x j pos}:PE X (.Constant (.str x) j pos) (tC (.str x)):=λ_ _ _ H _ I h=>Calls.Constant_str ⟨.str x,H,I.tok _,⟨_,rfl⟩,h⟩
def Gl (X:Cx)(x:Str):Prop:=X.env.kindOf x=some .globalImplicit
def wQ {E:Value->Shared->Prop}{ag:List (Addr×Obj)}{s:Shared}{σ:St}{H:Hp}{x:Str}{u:Value}{pos:Pos}{Q:Value->Shared->Prop}(I:Inv X ag σ H s)(hg:Gl X x)(hm:X.mg x=some u)(h:Q u s)
  (hd:(x == ("__debug__":Str))=false:=by decide):wpAny (model X.prog X.w) X.A (eval (.Name x pos) X.env) Q E s :=
 Calls.Name_function_global I.ok.kind hg (Calls.loadGlobal_global (by rw [I.ok.glob];exact I.mod.glob.keeps I.bk) hm h) hd
def iP {E:Value->Shared->Prop}{ag:List (Addr×Obj)}{s:Shared}{σ:St}{H:Hp}{x:Str}{u:Value}{pos:Pos}{Q:Value->Shared->Prop}(I:Inv X ag σ H s)(hg:Gl X x)(hm:X.mg x=none)(hv:bootBuiltins x=some u)(h:Q u s)
  (hn:x ≠ "__name__" := by decide)(hd:(x == ("__debug__":Str))=false:=by decide):wpAny (model X.prog X.w) X.A (eval (.Name x pos) X.env) Q E s:=by
 obtain⟨mb,h1,h2⟩:=I.mod.blt;exact Calls.Name_function_global I.ok.kind hg (Calls.loadGlobal_builtin (by rw [I.ok.glob];exact I.mod.glob.keeps I.bk) hm (by rw [I.ok.blt];exact h1.keeps I.bk) ((h2 x hn).trans hv) h) hd
def JD {x:Str}{v:V}{u:Value}{pos:Pos}(hg:Gl X x)(hm:X.mg x=some u)(r:RelV v u)(hd:(x == ("__debug__":Str))=false:=by decide):PE X (.Name x pos) (tC v) :=
 λ_ _ _ H _ I h=>wQ I hg hm ⟨v,H,I,r,h⟩ hd
def gh {x:Str}{v:V}{u:Value}{pos:Pos}(hg:Gl X x)(hm:X.mg x=none)(hv:bootBuiltins x=some u)(r:RelV v u)(hn:x ≠ "__name__" := by decide)(hd:(x == ("__debug__":Str))=false:=by decide):PE X (.Name x pos) (tC v) :=
 λ_ _ _ H _ I h=>iP I hg hm hv ⟨v,H,I,r,h⟩ hn hd
variable {a b:Expr}{ta tb:TE}{pos:Pos}
def PC (X:Cx)(op:CmpOp)(a b:Expr)(t:TE):Prop :=
 ∀(ag:List (Addr×Obj))(s:Shared)(σ:St)(H:Hp)(Q:VK),Inv X ag σ H s->t σ H Q ->
  wpAny (model X.prog X.w) X.A (eval a X.env) (λv s₁=>wpAny (model X.prog X.w) X.A (eval b X.env) (λu s₂=>wpAny (model X.prog X.w) X.A (compareOp op v u) (EP X ag σ Q) X.xe s₂) X.xe s₁) X.xe s
def yl (b:Expr){op:CmpOp}(h:op≠.In)(h2:op≠.NotIn):behindInMarks op b=false:=by
 have e1:(op == CmpOp.In)=false:=by cases op <;> first | rfl | exact absurd rfl h
 have e2:(op == CmpOp.NotIn)=false:=by cases op <;> first | rfl | exact absurd rfl h2
 cases b <;> simp [behindInMarks,e1,e2]
def UU (ta:TE):TE:=λσ H Q=>ta σ H λx H1=>Q (.bl (decide (x=.eU))) H1
def PF (ta:TE):TE:=λσ H Q=>ta σ H λx H1=>Q (.bl (!decide (x=.eU))) H1
def RelV.yj {x:V}{v:Value}(r:RelV x v):(v == Value.none)=decide (x=.eU):=by
 cases x with
 | eU=>cases r;rfl
 | bl _=>cases r;rfl
 | int _=>obtain⟨t,rfl⟩:=r;rfl
 | str _=>obtain⟨t,rfl⟩:=r;rfl
 | Bd _=>obtain⟨t,rfl⟩:=r;rfl
 | N1 _=>obtain⟨t,rfl⟩:=r;rfl
 | ref _=>cases r;rfl
 | ty _=>cases r;rfl
def Ak {j pos'}(ha:PE X a ta):PC X .Is a (.Constant .none j pos') (UU ta):=by
 intro ag s σ H Q I h;refine cW (ha ag s σ H _ I h) λv s1 ⟨x,H1,I1,r1,q1⟩=>?_;exact Constant_none (is_none_gen ⟨.bl _,H1,I1,by rw [r1.yj];rfl,q1⟩)
def wF {j pos'}(ha:PE X a ta):PC X .IsNot a (.Constant .none j pos') (PF ta):=by
 intro ag s σ H Q I h;refine cW (ha ag s σ H _ I h) λv s1 ⟨x,H1,I1,r1,q1⟩=>?_;exact Constant_none (isnot_none_gen ⟨.bl _,H1,I1,by rw [r1.yj];rfl,q1⟩)
def tB (t:TE):TT:=λσ H Q=>t σ H λx H1=>∃c,x=.bl c/\Q c H1
def sq {op:CmpOp}{t:TE}(h:PC X op a b t)(h1:behindInMarks op b=false:=by first | exact yl _ (by decide) (by decide) | rfl):PE X (.Compare a [op] [b] pos) t:=λag s σ H Q I hw=>wpAny_Compare1 (h ag s σ H Q I hw) h1
def dG {op:CmpOp}{t:TE}(h:PC X op a b t)(h1:behindInMarks op b=false:=by first | exact yl _ (by decide) (by decide) | rfl):PT X (.Compare a [op] [b] pos) (tB t):=by
 intro ag s σ H Q I hw;refine wpAny_isTrue_Compare1 (cW (h ag s σ H _ I hw) λv s1 h1=>cW h1 λu s2 h2=>cW h2 λc s3 ⟨x,H1,I1,r1,q1⟩=>?_) h1;obtain⟨d,rfl,q⟩:=q1;cases r1;exact ni ⟨H1,I1,q⟩
def dF {e:Expr}{t:TE}(h:PE X e t)(he:∀whole,isTrue e X.env whole=(do let v <-whole;standAt e.pos;holding [v] (truthy v)):=by intro _;rfl):PT X e (tB t):=by
 intro ag s σ H Q I hw;refine isTrue_plain (cW (h ag s σ H _ I hw) λv s1 ⟨x,H1,I1,r1,q1⟩=>?_) (he _);obtain⟨d,rfl,q⟩:=q1;cases r1;exact ni ⟨H1,I1,q⟩
variable {tA SK:TT}{rest:List Expr}
def U1 (t u:TT):TT:=λσ H Q=>t σ H λc H1=>if c=true then u σ H1 Q else Q false H1
def tOr (t u:TT):TT:=λσ H Q=>t σ H λc H1=>if c=true then Q true H1 else u σ H1 Q
def US (t:TT):TT:=λσ H Q=>t σ H λc H1=>Q (!c) H1
def iz (ha:PT X a tA):PW X (.BoolOp .And [a] pos) tA:=by
 intro wh ag s σ H Q I h;refine isTrue_and (cW (ha ag s σ H Q I h) λc s1 e=>?_);cases c with
 | true=>exact isTrue_and_nil e
 | false=>exact e
def jJ (ha:PT X a tA):PW X (.BoolOp .Or [a] pos) tA:=by
 intro wh ag s σ H Q I h;refine isTrue_or (cW (ha ag s σ H Q I h) λc s1 e=>?_);cases c with
 | false=>exact isTrue_or_nil e
 | true=>exact e
def ja (ha:PT X a tA)(hb:PW X (.BoolOp .And (b::rest) pos) SK):PW X (.BoolOp .And (a::b::rest) pos) (U1 tA SK):=by
 intro wh ag s σ H Q I h;refine isTrue_and (cW (ha ag s σ H _ I h) λc s1 ⟨H1,I1,q1⟩=>?_);cases c with
 | true=>exact hb wh ag s1 σ H1 Q I1 q1
 | false=>exact⟨H1,I1,q1⟩
def kY (ha:PT X a tA)(hb:PW X (.BoolOp .Or (b::rest) pos) SK):PW X (.BoolOp .Or (a::b::rest) pos) (tOr tA SK):=by
 intro wh ag s σ H Q I h;refine isTrue_or (cW (ha ag s σ H _ I h) λc s1 ⟨H1,I1,q1⟩=>?_);cases c with
 | true=>exact⟨H1,I1,q1⟩
 | false=>exact hb wh ag s1 σ H1 Q I1 q1
def iL (ha:PT X a tA):PT X (.UnaryOp .Not a pos) (US tA):=by
 intro ag s σ H Q I h;exact isTrue_not (ha ag s σ H (λc H1=>Q (!c) H1) I h)
def PY (ta tb:TE):TE:=λσ H Q=>ta σ H λx H1=>∃c,x=.bl c/\if c=true then tb σ H1 Q else Q (.bl false) H1
def UR (ta tb:TE):TE:=λσ H Q=>ta σ H λx H1=>∃c,x=.bl c/\if c=true then Q (.bl true) H1 else tb σ H1 Q
def PD (ta:TE):TE:=λσ H Q=>ta σ H λx H1=>∃c,x=.bl c/\Q (.bl (!c)) H1
def jL {op}{t:TE}(h:PE X a t):PE X (.BoolOp op [a] pos) t:=λag s σ H Q I hw=>BoolOp_one (h ag s σ H Q I hw)
def jM (ha:PE X a ta)(hb:PE X (.BoolOp .And (b::rest) pos) tb):PE X (.BoolOp .And (a::b::rest) pos) (PY ta tb):=by
 intro ag s σ H Q I h;refine BoolOp_and (cW (ha ag s σ H _ I h) λv s1 ⟨x,H1,I1,r1,q1⟩=>?_);obtain⟨c,rfl,q1⟩:=q1;cases r1;refine ni ?_;cases c with
 | true=>exact hb ag s1 σ H1 Q I1 q1
 | false=>exact⟨.bl false,H1,I1,rfl,q1⟩
def K6 (ha:PE X a ta)(hb:PE X (.BoolOp .Or (b::rest) pos) tb):PE X (.BoolOp .Or (a::b::rest) pos) (UR ta tb):=by
 intro ag s σ H Q I h;refine BoolOp_or (cW (ha ag s σ H _ I h) λv s1 ⟨x,H1,I1,r1,q1⟩=>?_);obtain⟨c,rfl,q1⟩:=q1;cases r1;refine ni ?_;cases c with
 | false=>exact hb ag s1 σ H1 Q I1 q1
 | true=>exact⟨.bl true,H1,I1,rfl,q1⟩
def F_ (ha:PE X a ta):PE X (.UnaryOp .Not a pos) (PD ta):=by
 intro ag s σ H Q I h;refine UnaryOp_ (cW (ha ag s σ H _ I h) λv s1 ⟨x,H1,I1,r1,q1⟩=>?_);obtain⟨c,rfl,q1⟩:=q1;cases r1;exact not_of (ni ⟨.bl (!c),H1,I1,rfl,q1⟩)
def tIf (t:TT)(ta tb:TE):TE:=λσ H Q=>t σ H λc H1=>if c=true then ta σ H1 Q else tb σ H1 Q
def so {c:Expr}(hc:PT X c tA)(ha:PE X a ta)(hb:PE X b tb):PE X (.IfExp c a b pos) (tIf tA ta tb):=by
 intro ag s σ H Q I h;refine wpAny_IfExp (cW (hc ag s σ H _ I h) λd s1 ⟨H1,I1,q1⟩=>?_);cases d with
 | true=>exact ha ag s1 σ H1 Q I1 q1
 | false=>exact hb ag s1 σ H1 Q I1 q1
end
def aG (K:a8)(H:Hp)(a:Addr)(xs:List V):Prop :=
 Rd H a (.lst xs) \/
  ∃(o:Obj)(aN:Array Value) (n:Nat),K.lookup a=some o/\o.cls=.type "list" /\ o.dict=none/\o.data=.seq aN n/\aN.size<=sizeLine/\aY xs aN.toList
def aR (K:a8)(H:Hp)(a:Addr)(xs:List V):Prop :=
 Rd H a (.tup xs) \/
  ∃(o:Obj)(aN:Array Value) (n:Nat),K.lookup a=some o/\o.cls=.type "tuple" /\ o.data=.seq aN n/\aN.size<=sizeLine/\aY xs aN.toList
def Yl:Value->Option V
 | .none=>some .eU
 | .bool b=>some (.bl b)
 | .int i _=>some (.int i)
 | .str x _=>some (.str x)
 | .bytes b _=>some (.Bd b)
 | .float b _=>some (.N1 b)
 | .ref a=>some (.ref a)
 | .type n=>some (.ty n)
 | _=>none
def RelV.abs {x:V}{u:Value}(r:RelV x u):Yl u=some x:=by
 cases x with
 | eU=>cases r;rfl
 | bl _=>cases r;rfl
 | int _=>obtain⟨t,rfl⟩:=r;rfl
 | str _=>obtain⟨t,rfl⟩:=r;rfl
 | Bd _=>obtain⟨t,rfl⟩:=r;rfl
 | N1 _=>obtain⟨t,rfl⟩:=r;rfl
 | ref _=>cases r;rfl
 | ty _=>cases r;rfl
def RelV.inj {x y:V}{u:Value}(r:RelV x u)(q:RelV y u):x=y:=iu (r.abs.symm.trans q.abs)
theorem aY.inj:∀{xs ys:List V}{us:List Value},aY xs us->aY ys us->xs=ys
 | _,_,_,.nil,.nil=>rfl
 | _,_,_,.cons r t,.cons r' t'=>by rw [r.inj r',aY.inj t t']
section
variable {X:Cx}{ag:List (Addr×Obj)}{σ:St}{H:Hp}{s:Shared}{a:Addr}{xs ys:List V}
def aG.of {K:a8}(h:H a=some (.lst xs)):aG K H a xs:=.inl (.inl h)
def aR.of {K:a8}(h:H a=some (.tup xs)):aR K H a xs:=.inl (.inl h)
def Inv.list (I:Inv X ag σ H s)(h:aG X.K H a xs):∃aN:List Value,aY xs aN/\PlainL s.heap a aN.toArray/\xs.length<=sizeLine:=by
 rcases h with h | ⟨o,aN,n,hk,hc,hd,hs,hz,r⟩
 .obtain⟨z,aN,n,r,e⟩:=h.ok I.bY;exact⟨aN,r,⟨_,n,e,rfl,rfl,rfl⟩,z⟩
 refine⟨aN.toList,r,⟨o,n,I.wU a o hk,hc,hd,by simpa using hs⟩,?_⟩;have e:=r.length;simp only [iF] at e;omega
def Inv.tuple (I:Inv X ag σ H s)(h:aR X.K H a xs):∃aN:List Value,aY xs aN/\IsTup s.heap a aN.toArray/\xs.length<=sizeLine:=by
 rcases h with h | ⟨o,aN,n,hk,hc,hs,hz,r⟩
 .obtain⟨z,aN,r,p⟩:=h.ok I.bY;exact⟨aN,r,p,z⟩
 refine⟨aN.toList,r,⟨o,I.wU a o hk,hc,n,by simpa using hs⟩,?_⟩;have e:=r.length;simp only [iF] at e;omega
def Inv.sI (I:Inv X ag σ H s)(h:aG X.K H a xs)(h':aG X.K H a ys):xs=ys:=by
 obtain⟨aN,r,⟨o,n,e,_,_,d⟩,_⟩:=I.list h;obtain⟨ug,r',⟨o',n',e',_,_,d'⟩,_⟩:=I.list h';rw [e] at e';cases e';rw [d] at d';injection d' with d1 _;have:aN=ug:=by simpa using congrArg Array.toList d1
 subst this;exact r.inj r'
def Inv.ux (I:Inv X ag σ H s)(h:aR X.K H a xs)(h':aR X.K H a ys):xs=ys:=by
 obtain⟨aN,r,⟨o,e,_,n,d⟩,_⟩:=I.tuple h;obtain⟨ug,r',⟨o',e',_,n',d'⟩,_⟩:=I.tuple h';rw [e] at e';cases e';rw [d] at d';injection d' with d1 _;have:aN=ug:=by simpa using congrArg Array.toList d1
 subst this;exact r.inj r'
end
abbrev Cx.qt (X:Cx)(E:Value->Shared->Prop):Cx:={ X with xe:=E }
abbrev Cx.Dt (X:Cx):Cx:=X.qt λ_ _=>False
theorem Cx.Ok.qt {X:Cx}(ok:X.Ok)(E:Value->Shared->Prop):(X.qt E).Ok :=
 ⟨ok.mod,ok.kind,ok.glob,ok.blt,ok.above,ok.inj,ok.has,ok.Sf,ok.hd,ok.frames,ok.SO,ok.O2,ok.bs,ok.Jb,ok.GO,ok.DZ,ok.pL,ok.Lx⟩
def Cx.Ok.i9 {X:Cx}{E:Value->Shared->Prop}(ok:(X.qt E).Ok):X.Ok :=
 ⟨ok.mod,ok.kind,ok.glob,ok.blt,ok.above,ok.inj,ok.has,ok.Sf,ok.hd,ok.frames,ok.SO,ok.O2,ok.bs,ok.Jb,ok.GO,ok.DZ,ok.pL,ok.Lx⟩
section
variable {X:Cx}{ag:List (Addr×Obj)}{σ:St}{H:Hp}{s:Shared}{E:Value->Shared->Prop}
theorem Inv.qt (I:Inv X ag σ H s)(E:Value->Shared->Prop):Inv (X.qt E) ag σ H s:=⟨I.ok.qt E,I.os,I.bare,I.base,I.loc,I.cell,I.free,I.lD,I.pin,I.bY,I.len⟩
theorem Inv.i9 (I:Inv (X.qt E) ag σ H s):Inv X ag σ H s:=⟨I.ok.i9,I.os,I.bare,I.base,I.loc,I.cell,I.free,I.lD,I.pin,I.bY,I.len⟩
theorem SP.i9 {D:Ends}{f:Flow}{s':Shared}(h:SP (X.qt E) ag D f s'):SP X ag D f s':=by
 cases f with
 | next=>obtain⟨σ',H',I,q⟩:=h;exact⟨σ',H',I.i9,q⟩
 | brk=>obtain⟨σ',H',I,q⟩:=h;exact⟨σ',H',I.i9,q⟩
 | cont=>obtain⟨σ',H',I,q⟩:=h;exact⟨σ',H',I.i9,q⟩
 | ret u=>obtain⟨v,σ',H',I,r,q⟩:=h;exact⟨v,σ',H',I.i9,r,q⟩
theorem PE.Dt {e:Expr}{t:TE}(h:PE X.Dt e t):PE X e t:=λag s σ H Q I hw =>
 dB (h ag s σ H Q (I.qt _) hw) (λ_ _ ⟨v,H',I',r,q⟩=>⟨v,H',I'.i9,r,q⟩) λ_ _ z=>False.elim z
theorem PT.Dt {e:Expr}{t:TT}(h:PT X.Dt e t):PT X e t:=λag s σ H Q I hw =>
 dB (h ag s σ H Q (I.qt _) hw) (λ_ _ ⟨H',I',q⟩=>⟨H',I'.i9,q⟩) λ_ _ z=>False.elim z
theorem Bj.Dt {st:List Stmt}{t:TS}(h:Bj X.Dt st t):Bj X st t:=λag s σ H D I hw =>
 dB (h ag s σ H D (I.qt _) hw) (λ_ _ q=>q.i9) λ_ _ z=>False.elim z
end
section
variable {X:Cx}{st:Stmt}{rest:List Stmt}{t u:TS}{e:Expr}{te:TE}{pos:Pos}
def PH:TS:=λD σ H=>D.nx σ H
def Mh (t u:TS):TS:=λD σ H=>t { D with nx:=u D } σ H
def aS:Bj X [] PH:=λ_ _ σ H _ I h=>wpAny_execs_nil ⟨σ,H,I,h⟩
def aj (h1:PS X st t)(h2:Bj X rest u):Bj X (st::rest) (Mh t u):=by
 intro ag s σ H D I h;refine wpAny_execs_cons (cW (h1 ag s σ H { D with nx:=u D } I h) λf s1 q=>?_);cases f with
 | next =>
  obtain⟨σ',H',I',q⟩:=q;exact h2 ag s1 σ' H' D I' q
 | ret v=>exact q
 | brk=>exact q
 | cont=>exact q
def ak (h1:PS X st t):Bj X [st] t:=by
 intro ag s σ H D I h;refine wpAny_execs_cons (cW (h1 ag s σ H D I h) λf s1 q=>?_);cases f with
 | next=>exact wpAny_execs_nil q
 | ret v=>exact q
 | brk=>exact q
 | cont=>exact q
def Mm:TS:=λD σ H=>D.bk σ H
def F2:PS X (.Break pos) Mm:=λ_ _ σ H _ I h=>wpAny_Break ⟨σ,H,I,h⟩
def Inv.quiet {ag:List (Addr×Obj)}{σ:St}{H:Hp}{s:Shared}(I:Inv X ag σ H s):interactive X.env=false:=by simp [interactive,I.ok.kind]
def PQ (te:TE):TS:=λD σ H=>te σ H λ_ H1=>D.nx σ H1
def cA (he:PE X e te)(hs:swapsWith e none pos.line X.env=pure false:=by rfl):PS X (.Expr e pos) (PQ te):=by
 intro ag s σ H D I h;exact wpAny_Expr_any (cW (he ag s σ H _ I h) λv s1 ⟨x,H1,I1,r1,q1⟩=>⟨σ,H1,I1,q1⟩) I.quiet hs
def UQ (te:TE):TS:=λD σ H=>te σ H D.rt
def aQ (he:PE X e te):PS X (.Return (some e) pos) (UQ te):=by
 intro ag s σ H D I h;exact wpAny_Return_some (cW (he ag s σ H _ I h) λv s1 ⟨x,H1,I1,r1,q1⟩=>⟨x,σ,H1,I1,r1,q1⟩)
def UW (c:TT)(t u:TS):TS:=λD σ H=>c σ H λb H1=>if b=true then t D σ H1 else u D σ H1
def bT {c:Expr}{a b:List Stmt}{tc:TT}(hc:PT X c tc)(ha:Bj X a t)(hb:Bj X b u):PS X (.If c a b pos) (UW tc t u):=by
 intro ag s σ H D I h;refine wpAny_If (cW (hc ag s σ H _ I h) λd s1 ⟨H1,I1,q1⟩=>?_);cases d with
 | true=>exact ha ag s1 σ H1 D I1 q1
 | false=>exact hb ag s1 σ H1 D I1 q1
def Mi:TS:=λ_ _ _=>False
def iM:PS X st Mi:=λ_ _ _ _ _ _ h=>h.elim
end
abbrev TG:=V->St->Hp->(St->Hp->Prop)->Prop
abbrev LU:=List V->St->Hp->(St->Hp->Prop)->Prop
def PG (X:Cx)(target:Expr)(t:TG):Prop :=
 ∀(ag:List (Addr×Obj))(s:Shared)(σ:St)(H:Hp)(v:V)(u:Value)(Q:St->Hp->Prop),Inv X ag σ H s->RelV v u->t v σ H Q ->
  wpAny (model X.prog X.w) X.A (assign target X.env u) (λ_ s'=>∃σ' H',Inv X ag σ' H' s'/\Q σ' H') X.xe s
def So (X:Cx)(ts:List Expr)(t:LU):Prop :=
 ∀(ag:List (Addr×Obj))(s:Shared)(σ:St)(H:Hp)(vs:List V)(us:List Value)(Q:St->Hp->Prop),Inv X ag σ H s->aY vs us->t vs σ H Q ->
  wpAny (model X.prog X.w) X.A (assignInOrder ((assignEach ts X.env).map (·.2)) us) (λ_ s'=>∃σ' H',Inv X ag σ' H' s'/\Q σ' H') X.xe s
abbrev Up:=V->V->Hp->VK->Prop
def PIp (X:Cx)(op:Operator)(t:Up):Prop :=
 ∀(ag:List (Addr×Obj))(s:Shared)(σ:St)(H:Hp)(x y:V)(v u:Value)(Q:VK),Inv X ag σ H s->RelV x v->RelV y u->t x y H Q ->
  wpAny (model X.prog X.w) X.A (inplaceOp op v u) (EP X ag σ Q) X.xe s
section
variable {X:Cx}{pos:Pos}
def dJ (i:Nat):TG:=λv σ H Q=>Q (σ.set i (some v)) H
def ao {i:Nat}{x:Str}(hN:X.N.Nodup)(hi:X.N[i]?=some x)(hx:Loc X.env.scope x)(hf:X.fn x=true\/X.env.scope.names.lookup x=some .local:=by first | exact .inl rfl | exact .inr rfl | assumption):PG X (.Name x pos) (dJ i):=by
 intro ag s σ H v u Q I r h;exact wpAny_assign_Name (rN I hN hi hx r (λs' I'=>⟨_,H,I',h⟩) hf)
def DR:LU:=λvs σ H Q=>vs=[]/\Q σ H
def jt (t:TG)(u:LU):LU:=λvs σ H Q=>∃v r,vs=v::r/\t v σ H λσ' H'=>u r σ' H' Q
def bU:So X [] DR:=by
 intro ag s σ H vs us Q I r h;obtain⟨e,h⟩:=h;subst e;cases r;exact assignInOrder_nil ⟨σ,H,I,h⟩
def aA {e:Expr}{es:List Expr}{t:TG}{u:LU}(h1:PG X e t)(h2:So X es u)
  (hs:(assignEach (e::es) X.env).map (·.2)=assign e X.env::(assignEach es X.env).map (·.2):=by rfl):So X (e::es) (jt t u):=by
 intro ag s σ H vs us Q I r h;obtain⟨v,vr,e1,h⟩:=h;subst e1;cases r with
 | cons r rr =>
  rw [hs];refine assignInOrder_cons (cW (h1 ag s σ H _ _ _ I r h) λ_ s1 ⟨σ1,H1,I1,q1⟩=>?_);exact h2 ag s1 σ1 H1 _ _ Q I1 rr q1
def AW (K:a8) (n:Nat)(t:LU):TG:=λv σ H Q=>∃a xs,v=.ref a/\aR K H a xs/\xs.length=n/\t xs σ H Q
def gO {es:List Expr}{k:Nat}{t:LU}{n:Nat}(hc:X.calm=true)(h:So X es t)
  (hn:(assignEach es X.env).length=n:=by rfl)(mY:(assignEach es X.env).findIdx? (·.1)=none:=by rfl):PG X (.Tuple es k pos) (AW X.K n t):=by
 intro ag s σ H v u Q I r hw;obtain⟨a,xs,e1,hq,hl,hw⟩:=hw;subst e1;cases r;obtain⟨aN,rv,ht,hz⟩:=I.tuple hq;refine assign_Tuple_tuple (I.ok.hd hc) ht (by simp [hn,<-hl,rv.length]) mY λh' hx=>?_;have I1:Inv X ag σ H { s with heap:=h' }:=I.kept (t':=s.toks) λb o e=>hx b o (bD (bu e)) e;exact h ag _ σ H xs _ Q I1 (by simpa using rv) hw
def Mn (te:TE)(g:TG):TS:=λD σ H=>te σ H λx H1=>g x σ H1 D.nx
def MQ {tg e:Expr}{te:TE}{g:TG}(he:PE X e te)(hg:PG X tg g)(hs:swapsWithSole [tg] e pos.line X.env=pure false:=by rfl)(hw:swappedStores [tg] e X.env=pure none:=by rfl)
  (h1:(assignEach [tg] X.env).map (·.2)=[assign tg X.env]:=by rfl):PS X (.Assign [tg] e pos) (Mn te g):=by
 intro ag s σ H D I h;refine wpAny_Assign_stores (cW (he ag s σ H _ I h) λv s1 ⟨x,H1,I1,r1,q1⟩=>?_) hs hw;rw [h1];exact cW (hg ag s1 σ H1 x v _ I1 r1 q1) λ_ s2 q=>q
def aC {i:Nat}{x:Str}{e:Expr}{te:TE}{pos':Pos}(hN:X.N.Nodup)(hi:X.N[i]?=some x)(hx:Loc X.env.scope x)(he:PE X e te)(hs:swapsWith e (some (.Name x pos')) pos.line X.env=pure false:=by rfl)(hf:X.fn x=true\/X.env.scope.names.lookup x=some .local:=by first | exact .inl rfl | exact .inr rfl | assumption) :
  PS X (.Assign [.Name x pos'] e pos) (Mn te (dJ i)):=by
 intro ag s σ H D I h;refine wpAny_Assign_Name (cW (he ag s σ H _ I h) λv s1 ⟨y,H1,I1,r1,q1⟩=>?_) hs;exact rN I1 hN hi hx r1 (λs2 I2=>⟨_,H1,I2,q1⟩) hf
def U0 (i:Nat)(te:TE)(ti:Up):TS:=λD σ H=>∃x,σ[i]?=some (some x)/\te σ H λy H1=>ti x y H1 λz H2=>D.nx (σ.set i (some z)) H2
def MP {i:Nat}{x:Str}{e:Expr}{te:TE}{op:Operator}{ti:Up}{pos':Pos}(hN:X.N.Nodup)(hi:X.N[i]?=some x)(hx:Loc X.env.scope x)(he:PE X e te)(ho:PIp X op ti)(hf:X.fn x=true\/X.env.scope.names.lookup x=some .local:=by first | exact .inl rfl | exact .inr rfl | assumption) :
  PS X (.AugAssign (.Name x pos') op e pos) (U0 i te ti):=by
 intro ag s σ H D I h;obtain⟨v,e1,h⟩:=h;obtain⟨m,hn,hl⟩:=I.loc;have vis:Uo X.env.scope x:=by rcases hx with k | k;exact .inl k;exact .inr (.inl k)
 obtain⟨u,r,l⟩:=hl i x v hi e1 vis;refine wpAny_AugAssign_Name ?_;have go:wpAny (model X.prog X.w) X.A (eval e X.env) (λw s₂=>wpAny (model X.prog X.w) X.A (inplaceOp op u w) (λr s₃=>wpAny (model X.prog X.w) X.A (storeName X.env x r) (λ_=>SP X ag D .next) X.xe s₃) X.xe s₂) X.xe s:=by
  refine cW (he ag s σ H _ I h) λw s1 ⟨y,H1,I1,r1,q1⟩=>?_;refine cW (ho ag s1 σ H1 v y u w _ I1 r r1 q1) λz s2 ⟨zv,H2,I2,r2,q2⟩=>?_;exact rN I2 hN hi hx r2 (λs3 I3=>⟨_,H2,I3,q2⟩) hf
 rcases l with ⟨hk,hm⟩ | ⟨hk,c,hc,jq⟩
 .exact vB I.ok.kind hk hn hm go
 rcases hk with hk | hk
 .exact wpAny_loadName_cell I.ok.kind hk hc jq go
 rcases hx with k | k
 .have:X.env.scope.names.lookup x=some .free:=hk;rw [k] at this;cases this
 have:X.env.scope.names.lookup x=some .free:=hk;rw [k] at this;cases this
def ipI (f:Int->Int->Int):Up:=λx y H Q=>∃i j,x=.int i/\y=.int j/\Q (.int (f i j)) H
def Nn:PIp X .Add (ipI λi j=>i+j):=by
 intro ag s σ H x y v u Q I r1 r2 h;obtain⟨i,j,e1,e2,q⟩:=h;subst e1;subst e2;obtain⟨t,rfl⟩:=r1;obtain⟨t',rfl⟩:=r2;exact iadd_int ⟨.int _,H,I.tok _,⟨_,rfl⟩,q⟩
end
section
variable {X:Cx}{pos:Pos}
def Mf (c:TT)(tb:TS):TS:=λD σ H=>∃W:Nat->St->Hp->Prop,(∃m,W m σ H)/\∀m σ H,W m σ H ->
 c σ H λb H1=>if b=true then ∃N:St->Hp->Prop,(∀σ' H',N σ' H'->∃m',m' < m/\W m' σ' H')/\tb { D with nx:=N,ct:=N,bk:=D.nx } σ H1 else D.nx σ H1
def kZ {c:Expr}{body:List Stmt}{tc:TT}{tb:TS}(hp:PassesOwn (model X.prog X.w) X.A X.env X.xe)(hc:PT X c tc)(hb:Bj X body tb):PS X (.While c body [] pos) (Mf tc tb):=by
 intro ag s σ H D I h;obtain⟨W,⟨m0,w0⟩,turn⟩:=h;refine wpAny_While (codeAny_whileLoop (λn s'=>∃σ' H',Inv X ag σ' H' s'/\W n σ' H') ?_ m0 ⟨σ,H,I,w0⟩);rintro n s1 ⟨σ1,H1,I1,w1⟩;refine mr hp (cW (hc ag s1 σ1 H1 _ I1 (turn n σ1 H1 w1)) λb s2 ⟨H2,I2,q2⟩=>?_);cases b with
 | true =>
  obtain⟨N,hN,q2⟩:=q2;rw [ax rfl];refine mr hp (cW (hb ag s2 σ1 H2 _ I2 q2) λf s3 q3=>?_);cases f with
  | next =>
   obtain⟨σ3,H3,I3,n3⟩:=q3;obtain⟨m',hm,w3⟩:=hN σ3 H3 n3;exact⟨m',hm,σ3,H3,I3,w3⟩
  | cont =>
   obtain⟨σ3,H3,I3,n3⟩:=q3;obtain⟨m',hm,w3⟩:=hN σ3 H3 n3;exact⟨m',hm,σ3,H3,I3,w3⟩
  | brk=>exact q3
  | ret v=>exact q3
 | false =>
  rw [aw cZ];exact wpAny_execs_nil ⟨σ1,H2,I2,q2⟩
end
structure It where
 go:Nat->Hp->Prop
 mD:Nat->Hp->V->Hp->Prop
 stop:Nat->Hp->Prop
def xp (X:Cx)(ag:List (Addr×Obj))(H:Hp)(b:Addr):Prop :=
 H b=none/\b≠X.env.locals/\b∉X.fs/\(b∈X.ex\/X.s₀.heap.objs.size<=b)/\(∀x c,X.env.cells.lookup x=some c->c≠b)/\∀p∈X.pn++ag,p.1≠b
def Inv.wZ {X:Cx}{ag:List (Addr×Obj)}{σ:St}{H H':Hp}{s:Shared}{b:Addr}(I:Inv X ag σ H s)(hb:s.heap.objs.size<=b)(hn:H' b=none):xp X ag H' b:=by
 refine⟨hn,jZ (gr I.lt hb),I.VA hb,.inr (dH I.sz hb),λx c e z=>?_,λp hp z=>?_⟩
 .obtain⟨v,q⟩:=I.cell x c e;exact absurd (gr q.lt (by rw [z];exact hb)) (jB _)
 exact absurd (gr (bu (I.pin p hp).1) (by rw [z];exact hb)) (jB _)
structure Turn (P:Program)(w:World)(K:a8)(tg:Expr)(J:It)(fp:List Addr)(it:Addr)(tn:Nat->Heap->Prop):Prop where
 mem:it∈fp
 obj:∀i h,tn i h->∀b∈fp,∃o,h.get? b=some o/\∀v,o.data≠.cell v
 keep:∀i h h',tn i h->(∀b∈fp,∀o,h.get? b=some o->h'.get? b=some o)->tn i h'
 item:∀(X:Cx),X.prog=P->X.w=w->X.K=K->X.calm=true->∀(i:Nat)(ag:List (Addr×Obj))(s:Shared)(σ:St)(H:Hp)(E:Value->Shared->Prop),Inv X ag σ H s->(∀b∈fp,xp X ag H b)->tn i s.heap->J.go i H ->
  wpAny (model P w) X.A (pyNext (.ref it)) (λr s1=>∃u,r=some u /\
   wpAny (model P w) X.A (letOwnedTupleGo tg (.ref it) u) (λ_ s2=>∃x H',Inv X ag σ H' s2/\RelV x u/\J.mD i H x H'/\tn (i+1) s2.heap/\∀b∈fp,H' b=none) E s1) E s
 done:∀(X:Cx),X.prog=P->X.w=w->X.K=K->X.calm=true->∀(i:Nat)(ag:List (Addr×Obj))(s:Shared)(σ:St)(H:Hp)(E:Value->Shared->Prop),Inv X ag σ H s->(∀b∈fp,xp X ag H b)->tn i s.heap->J.stop i H ->
  wpAny (model P w) X.A (pyNext (.ref it)) (λr s1=>r=none/\Inv X ag σ H s1) E s
 self:∀(A:Around) (i:Nat)(s:Shared)(Q:Value->Shared->Prop)(E:Value->Shared->Prop),tn i s.heap->Q (.ref it) s->wpAny (model P w) A (pyIter (.ref it)) Q E s
abbrev TI:=St->Hp->(It->Hp->Prop)->Prop
def PIE (X:Cx)(ag:List (Addr×Obj))(σ:St)(tg:Expr)(R:It->Hp->Prop)(Tn:Value)(s2:Shared):Prop :=
 ∃(it:Addr)(fp:List Addr)(tn:Nat->Heap->Prop)(J:It)(H':Hp),Tn=.ref it/\Inv X ag σ H' s2/\Turn X.prog X.w X.K tg J fp it tn/\tn 0 s2.heap/\(∀b∈fp,xp X ag H' b)/\R J H'
def PI (X:Cx)(tg iter:Expr)(wi:TI):Prop :=
 ∀(ag:List (Addr×Obj))(s:Shared)(σ:St)(H:Hp)(R:It->Hp->Prop),Inv X ag σ H s->wi σ H R ->
  wpAny (model X.prog X.w) X.A (eval iter X.env) (λv s1=>wpAny (model X.prog X.w) X.A (pyIter v) (PIE X ag σ tg R) X.xe s1) X.xe s
def Ci {M:Model}{A:Around}{E:Value->Shared->Prop}{s:Shared}{tg:Expr}{it:Addr}{u:Value}{o:Obj}{n:String}{vs:Array Value}{Q:Unit->Shared->Prop}(ho:s.heap.get? it=some o)(hc:o.cls=.type n)(hd:o.data=.fields vs)
  (hn:["enumerate","zip","dict_itemiterator","dict_reverseitemiterator","odict_iterator","itertools.zip_longest","itertools.pairwise"].contains n=false)(hQ:Q () s):wpAny M A (letOwnedTupleGo tg (.ref it) u) Q E s:=by
 unfold letOwnedTupleGo;cases tg <;> first
  | exact aH hQ
  | (cases u <;> first
    | exact aH hQ
    | (refine aq (wpAny_load ho ?_)
       rw [hc,hd];show wpAny M A (if (["enumerate","zip","dict_itemiterator","dict_reverseitemiterator","odict_iterator","itertools.zip_longest","itertools.pairwise"].contains n && vs[0]? == some (rawInt _))=true then _ else _) Q E s;rw [aw (by intro h;rw [hn,qY] at h;cases h)];exact aH hQ))
def kj (K:a8)(a:Addr):It :=
 ⟨λi H=>∃xs x,aG K H a xs/\xs[i]?=some x,λi H x H'=>H'=H/\∀xs,aG K H a xs->xs[i]?=some x,λi H=>∃xs,aG K H a xs/\xs.length<=i⟩
def oI (K:a8)(a:Addr):It :=
 ⟨λi H=>∃xs x,aR K H a xs/\xs[i]?=some x,λi H x H'=>H'=H/\∀xs,aR K H a xs->xs[i]?=some x,λi H=>∃xs,aR K H a xs/\xs.length<=i⟩
def KL (lo:Int) (n:Nat):It:=⟨λi _=>i < n,λi H x H'=>H'=H/\x=.int (lo+i),λi _=>n<=i⟩
def CJ {P:Program}{w:World}{K:a8}{tg:Expr}(a it:Addr):Turn P w K tg (kj K a) [it] it (λi h=>h.IsListIter it a i) where
 mem:=by simp
 obj:=λi h st b hb=>by
  have e:b=it:=by simpa using hb
  subst e;obtain⟨o,e,c,d⟩:=st;exact⟨o,e,λv z=>by rw [d] at z;cases z⟩
 keep:=λi h h' st k=>st.at λo e=>k it (by simp) o e
 item:=by
  intro X hP hw hK hc i ag s σ H E I hf st hg;subst hP hw hK;obtain⟨xs,x,hq,hx⟩:=hg;obtain⟨aN,rv,p,hz⟩:=I.list hq;obtain⟨u,hu,ru⟩:=rv.get hx;obtain⟨f0,f1,f2,f3,f4,f5⟩:=hf it (by simp);refine wpAny_pyNext_list_item st p.isList (x:=u) (by simpa using hu) λh' uC sb=>?_;have I1:Inv X ag σ H { s with heap:=h' }:=I.turned (t':=s.toks) (λb o hb e=>(sb.2 b hb).trans e) f0 f1 f3 f4 f5;obtain⟨o,e,c,d⟩:=id uC;exact⟨u,rfl,Ci (s:={ s with heap:=h' }) e c d (by decide) ⟨x,H,I1,ru,⟨rfl,λys hy=>by rw [I.sI hy hq];exact hx⟩,uC,λb hb=>(hf b hb).1⟩⟩
 done:=by
  intro X hP hw hK hc i ag s σ H E I hf st hg;subst hP hw hK;obtain⟨xs,hq,hx⟩:=hg;obtain⟨aN,rv,p,hz⟩:=I.list hq;obtain⟨f0,f1,f2,f3,f4,f5⟩:=hf it (by simp);have hl:=rv.length;exact vG (I.ok.hd hc) st p.isList (by simp;omega) λh' eb=>⟨rfl,I.turned (t':=s.toks) (λb o hb e=>eb b o hb e) f0 f1 f3 f4 f5⟩
 self:=λ_ _ _ _ _ st h=>wpAny_pyIter_listiter st h
def zI {P:Program}{w:World}{K:a8}{tg:Expr}(a it:Addr):Turn P w K tg (oI K a) [it] it (λi h=>h.IsTupleIter it a i) where
 mem:=by simp
 obj:=λi h st b hb=>by
  have e:b=it:=by simpa using hb
  subst e;obtain⟨o,e,c,d⟩:=st;exact⟨o,e,λv z=>by rw [d] at z;cases z⟩
 keep:=λi h h' st k=>st.at λo e=>k it (by simp) o e
 item:=by
  intro X hP hw hK hc i ag s σ H E I hf st hg;subst hP hw hK;obtain⟨xs,x,hq,hx⟩:=hg;obtain⟨aN,rv,p,hz⟩:=I.tuple hq;obtain⟨u,hu,ru⟩:=rv.get hx;obtain⟨f0,f1,f2,f3,f4,f5⟩:=hf it (by simp);refine wpAny_pyNext_tuple_item st (show s.heap.IsTuple a aN.toArray from p) (x:=u) (by simpa using hu) λh' uC sb=>?_;have I1:Inv X ag σ H { s with heap:=h' }:=I.turned (t':=s.toks) (λb o hb e=>(sb.2 b hb).trans e) f0 f1 f3 f4 f5;obtain⟨o,e,c,d⟩:=id uC;exact⟨u,rfl,Ci (s:={ s with heap:=h' }) e c d (by decide) ⟨x,H,I1,ru,⟨rfl,λys hy=>by rw [I.ux hy hq];exact hx⟩,uC,λb hb=>(hf b hb).1⟩⟩
 done:=by
  intro X hP hw hK hc i ag s σ H E I hf st hg;subst hP hw hK;obtain⟨xs,hq,hx⟩:=hg;obtain⟨aN,rv,p,hz⟩:=I.tuple hq;obtain⟨f0,f1,f2,f3,f4,f5⟩:=hf it (by simp);have hl:=rv.length;exact wpAny_pyNext_tuple_end (I.ok.hd hc) st (show s.heap.IsTuple a aN.toArray from p) (by simp;omega) λh' eb=>⟨rfl,I.turned (t':=s.toks) (λb o hb e=>eb b o hb e) f0 f1 f3 f4 f5⟩
 self:=λ_ _ _ _ _ st h=>wpAny_pyIter_tupleiter st h
def zJ {P:Program}{w:World}{K:a8}{tg:Expr}(it:Addr) (lo:Int) (n:Nat):Turn P w K tg (KL lo n) [it] it (λi h=>IsRangeIter h it (lo+(i:Nat) * 1) ((n:Int) - (i:Nat)) 1) where
 mem:=by simp
 obj:=λi h st b hb=>by
  have e:b=it:=by simpa using hb
  subst e;exact⟨_,st,λv z=>by
   have z':Data.fields _=Data.cell v:=z;cases z'⟩
 keep:=λi h h' st k=>k it (by simp) _ st
 item:=by
  intro X hP hw hK hc i ag s σ H E I hf st hg;subst hP hw hK;obtain⟨f0,f1,f2,f3,f4,f5⟩:=hf it (by simp);have W:=Walks.range (prog:=X.prog) (w:=X.w) (I.ok.hd hc) it lo 1 n;refine W.item i s _ _ hg st λv h' tk hv uC kk=>?_;obtain⟨t,rfl⟩:=hv;have I1:Inv X ag σ H { s with heap:=h',toks:=tk }:=I.turned (λb o hb e=>kk b o (by simpa using hb) e) f0 f1 f3 f4 f5;refine⟨_,rfl,Ci (s:={ s with heap:=h',toks:=tk }) (n := "range_iterator") uC rfl rfl (by decide) ⟨.int (lo+i),H,I1,⟨t,?_⟩,⟨rfl,rfl⟩,uC,λb hb=>(hf b hb).1⟩⟩;rw [Int.mul_one]
 done:=by
  intro X hP hw hK hc i ag s σ H E I hf st hg;subst hP hw hK;obtain⟨f0,f1,f2,f3,f4,f5⟩:=hf it (by simp);exact wpAny_pyNext_range_end (I.ok.hd hc) st (by have:n<=i:=hg;omega) λh' eb=>⟨rfl,I.turned (t':=s.toks) (λb o hb e=>eb b o hb e) f0 f1 f3 f4 f5⟩
 self:=λ_ _ _ _ _ st h=>wpAny_pyIter_rangeiter st h
section
variable {X:Cx}{tg:Expr}
def QS (K:a8)(tl:TE):TI:=λσ H R=>tl σ H λx H1=>∃a,x=.ref a/\(∃xs,aG K H1 a xs)/\R (kj K a) H1
def Wc (K:a8)(tl:TE):TI:=λσ H R=>tl σ H λx H1=>∃a,x=.ref a/\(∃xs,aR K H1 a xs)/\R (oI K a) H1
def aX {l:Expr}{tl:TE}(hl:PE X l tl):PI X tg l (QS X.K tl):=by
 intro ag s σ H R I h;refine cW (hl ag s σ H _ I h) λv s1 ⟨x,H1,I1,r1,q1⟩=>?_;obtain⟨a,e,⟨xs,hq⟩,q⟩:=q1;subst e;cases r1;obtain⟨aN,rv,p,hz⟩:=I1.list hq;refine mw p.isList ?_;refine⟨s1.heap.objs.size,[s1.heap.objs.size],_,_,H1,rfl,I1.kept (t':=s1.toks) λb o e=>bG _ e,CJ a _,⟨_,cy _ rfl,rfl,rfl⟩,λb hb=>?_,q⟩;have e:b=s1.heap.objs.size:=by simpa using hb
 subst e;exact I1.wZ (aD _) (I1.bY.fresh (aD _))
def fA {l:Expr}{tl:TE}(hl:PE X l tl):PI X tg l (Wc X.K tl):=by
 intro ag s σ H R I h;refine cW (hl ag s σ H _ I h) λv s1 ⟨x,H1,I1,r1,q1⟩=>?_;obtain⟨a,e,⟨xs,hq⟩,q⟩:=q1;subst e;cases r1;obtain⟨aN,rv,p,hz⟩:=I1.tuple hq;refine vq (show s1.heap.IsTuple a aN.toArray from p) ?_;refine⟨s1.heap.objs.size,[s1.heap.objs.size],_,_,H1,rfl,I1.kept (t':=s1.toks) λb o e=>bG _ e,zI a _,⟨_,cy _ rfl,rfl,rfl⟩,λb hb=>?_,q⟩;have e:b=s1.heap.objs.size:=by simpa using hb
 subst e;exact I1.wZ (aD _) (I1.bY.fresh (aD _))
def F1 {ag:List (Addr×Obj)}{σ:St}{H:Hp}{s:Shared}{R:It->Hp->Prop}{E:Value->Shared->Prop}{lo hi:Int}{t u v:Tok}{tk:Nat}(I:Inv X ag σ H s)(h1:-(2 ^ 62)<=lo)(h2:lo < 2 ^ 62)(h3:-(2 ^ 62)<=hi)(h4:hi < 2 ^ 62)
  (q:R (KL lo (hi - lo).toNat) H):wpAny (model X.prog X.w) X.A (pyIter (.ref s.heap.objs.size)) (PIE X ag σ tg R) E { s with heap:=s.heap.push { cls:=.type "range",data:=.fields #[.int lo t,.int hi u,.int 1 v] },toks:=tk }:=by
 refine wpAny_pyIter_range (IsRange.new ..) (small_one h1 h2 h3 h4) ?_;have I1:Inv X ag σ H { s with heap:=s.heap.push { cls:=.type "range",data:=.fields #[.int lo t,.int hi u,.int 1 v] },toks:=tk }:=I.kept λb o e=>bG _ e;refine⟨(s.heap.push { cls:=.type "range",data:=.fields #[.int lo t,.int hi u,.int 1 v] }).objs.size,[(s.heap.push { cls:=.type "range",data:=.fields #[.int lo t,.int hi u,.int 1 v] }).objs.size],_,_,H,rfl,
  I1.kept (t':=tk) λb o e=>bG _ e,zJ _ lo (hi - lo).toNat,?_,λb hb=>?_,q⟩
 .have e1:lo+((0:Nat):Int) * 1=lo:=by simp
  have e2:(((hi - lo).toNat:Nat):Int) - ((0:Nat):Int)=Builtin.Range.rangeSize lo hi 1:=by rw [rangeSize_one];split <;> omega
  show IsRangeIter _ _ (lo+((0:Nat):Int) * 1) ((((hi - lo).toNat:Nat):Int) - ((0:Nat):Int)) 1;rw [e1,e2];exact cy _ rfl
 have e:b=(s.heap.push { cls:=.type "range",data:=.fields #[.int lo t,.int hi u,.int 1 v] }).objs.size:=by simpa using hb
 subst e;exact I1.wZ (aD _) (I1.bY.fresh (aD _))
def QR (ta:TA):TI:=λσ H R=>ta σ H λvs H1=>∃j:Int,vs=[.int j]/\-(2 ^ 62)<=j/\j < 2 ^ 62/\R (KL 0 j.toNat) H1
def gu {a:Expr}{ta:TA}{p pos:Pos}(hg:Gl X "range")(hm:X.mg "range"=none)(ha:PA X [a] ta)(hs:starEach [a] X.env=[(false,eval a X.env)]:=by rfl):PI X tg (.Call (.Name "range" p) [a] [] pos) (QR ta):=by
 intro ag s σ H R I h;refine Call_ (iP I hg hm boot_range (xA (cW (ha pos ag s σ H _ I h) λus s1 ⟨vs,H1,I1,r1,q1⟩=>?_) hs rfl));obtain⟨j,e,q1,q2,q⟩:=q1;subst e;cases r1 with
 | cons r rr =>
  cases rr;obtain⟨t,rfl⟩:=r;exact call_range_1 (F1 I1 (by omega) (by omega) q1 q2 (by simpa using q))
def UX (wi:TI)(g:TG)(tb:TS):TS:=λD σ H=>wi σ H λJ H1=>∃W:Nat->Nat->St->Hp->Prop,(∃m,W 0 m σ H1)/\∀i m σ H,W i m σ H ->
 (J.stop i H/\D.nx σ H)\/(J.go i H/\∃N:St->Hp->Prop,(∀σ' H',N σ' H'->∃m',m' < m/\W (i+1) m' σ' H')/\∀x H',J.mD i H x H'->g x σ H' λσ2 H2=>tb { D with nx:=N,ct:=N,bk:=D.nx } σ2 H2)
def pE (fp:List Addr)(h:Heap):List (Addr×Obj):=fp.filterMap λb=>(h.get? b).map λo=>(b,o)
def g7 {fp:List Addr}{h:Heap}{b:Addr}{o:Obj}(hb:b∈fp)(e:h.get? b=some o):(b,o)∈pE fp h:=List.mem_filterMap.mpr ⟨b,hb,by rw [e];rfl⟩
def Dr {fp:List Addr}{h:Heap}{p:Addr×Obj}(hp:p∈pE fp h):p.1∈fp/\h.get? p.1=some p.2:=by
 obtain⟨b,hb,e⟩:=List.mem_filterMap.mp hp;cases q:h.get? b with
 | none=>rw [q] at e;cases e
 | some o =>
  rw [q] at e;have e':(b,o)=p:=iu e;subst e';exact⟨hb,q⟩
def Inv.pinned {ag:List (Addr×Obj)}{σ:St}{H:Hp}{s:Shared}{fp:List Addr}(I:Inv X ag σ H s)(hf:∀b∈fp,xp X ag H b)(ho:∀b∈fp,∃o,s.heap.get? b=some o/\∀v,o.data≠.cell v):Inv X (ag++pE fp s.heap) σ H s :=
 I.B5 λp hp=>(cg.mp hp).elim (λz=>I.pin p (fS _ z)) λz=>by
  obtain⟨hb,e⟩:=Dr z;obtain⟨f0,f1,f2,_⟩:=hf p.1 hb;obtain⟨o,e',d⟩:=ho p.1 hb;rw [e] at e';cases e';exact⟨e,f0,f1,f2,d⟩
def Inv.kT {ag pl:List (Addr×Obj)}{σ:St}{H:Hp}{s:Shared}(I:Inv X (ag++pl) σ H s):Inv X ag σ H s:=I.B5 λp hp=>I.pin p (fS _ (iG _ hp))
def bJ {iter:Expr}{body:List Stmt}{wi:TI}{g:TG}{tb:TS}{pos:Pos}(hp:PassesOwn (model X.prog X.w) X.A X.env X.xe)(hc:X.calm=true)(hi:PI X tg iter wi)(hg:PG X tg g)(hb:Bj X body tb)
  (hs:∀x,foldedSetIterable iter X.env x=pure x:=by intro _;rfl):PS X (.For tg iter body [] pos) (UX wi g tb):=by
 intro ag s σ H D I h;refine wpAny_For (cW (hi ag s σ H _ I h) λv s1 h1=>cW h1 λTn s2 h2=>?_) hs;obtain⟨it,fp,tn,J,H2,e,I2,T,EI,f2,W,⟨m0,w0⟩,turn⟩:=h2;subst e;have rO:∀{H':Hp},(∀b∈fp,H' b=none)->∀b∈fp,xp X ag H' b:=λhn b hb=>⟨hn b hb,(f2 b hb).2⟩;refine codeAny_forLoop_any (λn s'=>∃i σ' H',Inv X ag σ' H' s'/\tn i s'.heap/\(∀b∈fp,H' b=none)/\W i n σ' H') ?_ m0 ⟨0,σ,H2,I2,EI,λb hb=>(f2 b hb).1,w0⟩;rintro n s3 ⟨i,σ3,H3,I3,P0,fr3,w3⟩;rcases turn i n σ3 H3 w3 with ⟨stop,qn⟩ | ⟨go,N,hN,step⟩
 .refine mr hp (cW (T.done X rfl rfl rfl hc i ag s3 σ3 H3 X.xe I3 (rO fr3) P0 stop) λr s4 ⟨hr,I4⟩=>?_);subst hr;exact wpAny_execs_nil ⟨σ3,H3,I4,qn⟩
 refine mr hp (cW (T.item X rfl rfl rfl hc i ag s3 σ3 H3 X.xe I3 (rO fr3) P0 go) λr s4 ⟨u,hr,h4⟩=>?_);subst hr;refine mr hp (cW h4 λ_ s5 ⟨x,H5,I5,r5,y5,CO,RJ⟩=>?_);have I5':=I5.pinned (rO RJ) (T.obj _ _ CO);refine mr hp (cW (hg _ s5 σ3 H5 x u _ I5' r5 (step x H5 y5)) λ_ s6 ⟨σ6,H6,I6,q6⟩=>?_);refine mr hp (cW (hb _ s6 σ6 H6 _ I6 q6) λf s7 q7=>?_);have again:∀{σ7:St}{H7:Hp},Inv X (ag++pE fp s5.heap) σ7 H7 s7->N σ7 H7->∃m,m < n/\∃i σ' H',Inv X ag σ' H' s7/\tn i s7.heap/\(∀b∈fp,H' b=none)/\W i m σ' H':=λ{σ7 H7} I7 n7=>by
  obtain⟨m',hm,w7⟩:=hN σ7 H7 n7;refine⟨m',hm,i+1,σ7,H7,I7.kT,T.keep _ _ _ CO λb hb o e=>(I7.pin (b,o) (fS _ (fS _ (g7 hb e)))).1,λb hb=>?_,w7⟩;obtain⟨o,e,d⟩:=T.obj _ _ CO b hb;exact(I7.pin (b,o) (fS _ (fS _ (g7 hb e)))).2.1
 cases f with
 | next=>obtain⟨σ7,H7,I7,n7⟩:=q7;exact again I7 n7
 | cont=>obtain⟨σ7,H7,I7,n7⟩:=q7;exact again I7 n7
 | brk=>obtain⟨σ7,H7,I7,q7⟩:=q7;exact⟨σ7,H7,I7.kT,q7⟩
 | ret v=>obtain⟨x7,σ7,H7,I7,r7,q7⟩:=q7;exact⟨x7,σ7,H7,I7.kT,r7,q7⟩
end
def cQ {K:a8}{a:Addr}{xs:List V}{g:TG}{tb:TS}{D:Ends}{σ:St}{H:Hp}(Pv:Nat->St->Hp->Prop)(h0:Pv 0 σ H)(hl:∀i σ H,i<=xs.length->Pv i σ H->aG K H a xs)
  (hs:∀i x σ H,xs[i]?=some x->Pv i σ H->g x σ H λσ2 H2=>tb { D with nx:=Pv (i+1),ct:=Pv (i+1),bk:=D.nx } σ2 H2)(hd:∀σ H,Pv xs.length σ H->D.nx σ H) :
  ∃W:Nat->Nat->St->Hp->Prop,(∃m,W 0 m σ H)/\∀i m σ H,W i m σ H ->
   ((kj K a).stop i H/\D.nx σ H)\/((kj K a).go i H/\∃N:St->Hp->Prop,(∀σ' H',N σ' H'->∃m',m' < m/\W (i+1) m' σ' H')/\∀x H',(kj K a).mD i H x H'->g x σ H' λσ2 H2=>tb { D with nx:=N,ct:=N,bk:=D.nx } σ2 H2):=by
 refine⟨λi m σ H=>m=xs.length - i/\i<=xs.length/\Pv i σ H,⟨xs.length,by simp,fh _,h0⟩,?_⟩;rintro i m σ H ⟨rfl,hi,p⟩;have q:=hl i σ H hi p;by_cases jd:i < xs.length
 .refine .inr ⟨⟨xs,xs[i],q,by simp [jd]⟩,Pv (i+1),λσ' H' p'=>⟨xs.length - (i+1),by omega,rfl,jd,p'⟩,λx H' y=>?_⟩;obtain⟨e,y⟩:=y;subst e;exact hs i x σ _ (y xs q) p
 have e:i=xs.length:=by omega
 subst e;exact .inl ⟨⟨xs,q,aD _⟩,hd σ H p⟩
def oy {K:a8}{a:Addr}{xs:List V}{g:TG}{tb:TS}{D:Ends}{σ:St}{H:Hp}(Pv:Nat->St->Hp->Prop)(h0:Pv 0 σ H)(hl:∀i σ H,i<=xs.length->Pv i σ H->aR K H a xs)
  (hs:∀i x σ H,xs[i]?=some x->Pv i σ H->g x σ H λσ2 H2=>tb { D with nx:=Pv (i+1),ct:=Pv (i+1),bk:=D.nx } σ2 H2)(hd:∀σ H,Pv xs.length σ H->D.nx σ H) :
  ∃W:Nat->Nat->St->Hp->Prop,(∃m,W 0 m σ H)/\∀i m σ H,W i m σ H ->
   ((oI K a).stop i H/\D.nx σ H)\/((oI K a).go i H/\∃N:St->Hp->Prop,(∀σ' H',N σ' H'->∃m',m' < m/\W (i+1) m' σ' H')/\∀x H',(oI K a).mD i H x H'->g x σ H' λσ2 H2=>tb { D with nx:=N,ct:=N,bk:=D.nx } σ2 H2):=by
 refine⟨λi m σ H=>m=xs.length - i/\i<=xs.length/\Pv i σ H,⟨xs.length,by simp,fh _,h0⟩,?_⟩;rintro i m σ H ⟨rfl,hi,p⟩;have q:=hl i σ H hi p;by_cases jd:i < xs.length
 .refine .inr ⟨⟨xs,xs[i],q,by simp [jd]⟩,Pv (i+1),λσ' H' p'=>⟨xs.length - (i+1),by omega,rfl,jd,p'⟩,λx H' y=>?_⟩;obtain⟨e,y⟩:=y;subst e;exact hs i x σ _ (y xs q) p
 have e:i=xs.length:=by omega
 subst e;exact .inl ⟨⟨xs,q,aD _⟩,hd σ H p⟩
def g9 {lo:Int}{n:Nat}{g:TG}{tb:TS}{D:Ends}{σ:St}{H:Hp}(Pv:Nat->St->Hp->Prop)(h0:Pv 0 σ H)
  (hs:∀i σ H,i < n->Pv i σ H->g (.int (lo+i)) σ H λσ2 H2=>tb { D with nx:=Pv (i+1),ct:=Pv (i+1),bk:=D.nx } σ2 H2)(hd:∀σ H,Pv n σ H->D.nx σ H) :
  ∃W:Nat->Nat->St->Hp->Prop,(∃m,W 0 m σ H)/\∀i m σ H,W i m σ H ->
   ((KL lo n).stop i H/\D.nx σ H)\/((KL lo n).go i H/\∃N:St->Hp->Prop,(∀σ' H',N σ' H'->∃m',m' < m/\W (i+1) m' σ' H')/\∀x H',(KL lo n).mD i H x H'->g x σ H' λσ2 H2=>tb { D with nx:=N,ct:=N,bk:=D.nx } σ2 H2):=by
 refine⟨λi m σ H=>m=n - i/\i<=n/\Pv i σ H,⟨n,by simp,fh _,h0⟩,?_⟩;rintro i m σ H ⟨rfl,hi,p⟩;by_cases jd:i < n
 .refine .inr ⟨jd,Pv (i+1),λσ' H' p'=>⟨n - (i+1),by omega,rfl,jd,p'⟩,λx H' y=>?_⟩;obtain⟨e,y⟩:=y;subst e y;exact hs i σ _ jd p
 have e:i=n:=by omega
 subst e;exact .inl ⟨aD _,hd σ H p⟩
abbrev R2:=V->V->Hp->VK->Prop
def kx (X:Cx)(f:Value->Value->Sem Value)(r:R2):Prop :=
 ∀(ag:List (Addr×Obj))(s:Shared)(σ:St)(H:Hp)(x y:V)(v u:Value)(Q:VK),Inv X ag σ H s->RelV x v->RelV y u->r x y H Q ->
  wpAny (model X.prog X.w) X.A (f v u) (EP X ag σ Q) X.xe s
def Yn (X:Cx)(f:Value->Sem Value)(r:V->Hp->VK->Prop):Prop :=
 ∀(ag:List (Addr×Obj))(s:Shared)(σ:St)(H:Hp)(x:V)(v:Value)(Q:VK),Inv X ag σ H s->RelV x v->r x H Q ->
  wpAny (model X.prog X.w) X.A (f v) (EP X ag σ Q) X.xe s
def ig (X:Cx)(f:Value)(r:List V->Hp->VK->Prop):Prop :=
 ∀(ag:List (Addr×Obj))(s:Shared)(σ:St)(H:Hp)(xs:List V)(us:List Value)(Q:VK),Inv X ag σ H s->aY xs us->r xs H Q ->
  wpAny (model X.prog X.w) X.A (call f us) (EP X ag σ Q) X.xe s
def Yo (X:Cx)(r:V->Hp->(Bool->Hp->Prop)->Prop):Prop :=
 ∀(ag:List (Addr×Obj))(s:Shared)(σ:St)(H:Hp)(x:V)(v:Value)(Q:Bool->Hp->Prop),Inv X ag σ H s->RelV x v->r x H Q ->
  wpAny (model X.prog X.w) X.A (truthy v) (TP X ag σ Q) X.xe s
def SJ (r:R2)(ta tb:TE):TE:=λσ H Q=>ta σ H λx H1=>tb σ H1 λy H2=>r x y H2 Q
def tUn (r:V->Hp->VK->Prop)(ta:TE):TE:=λσ H Q=>ta σ H λx H1=>r x H1 Q
def rI (C:Int->Int->Prop)(g:Int->Int->V):R2:=λx y H Q=>∃i j,x=.int i/\y=.int j/\C i j/\Q (g i j) H
def MO (g:Int->Int->V):R2:=λx y H Q=>∃i j,x=.int i/\y=.int j/\Q (g i j) H
def rU (g:Int->V):V->Hp->VK->Prop:=λx H Q=>∃i,x=.int i/\Q (g i) H
section
variable {X:Cx}{a b c:Expr}{ta tb tc:TE}{pos:Pos}
def Ov (ha:PE X a ta)(hb:PE X b tb){ag:List (Addr×Obj)}{s:Shared}{σ:St}{H:Hp}{R:V->V->Hp->Prop}(I:Inv X ag σ H s)
  (h:ta σ H λx H1=>tb σ H1 λy H2=>R x y H2){Q:Value->Shared->Prop}{f:Value->Value->Sem Value}
  (hf:∀v u s2 x y H2,Inv X ag σ H2 s2->RelV x v->RelV y u->R x y H2->wpAny (model X.prog X.w) X.A (f v u) Q X.xe s2) :
  wpAny (model X.prog X.w) X.A (eval a X.env) (λv s₁=>wpAny (model X.prog X.w) X.A (eval b X.env) (λu s₂=>wpAny (model X.prog X.w) X.A (f v u) Q X.xe s₂) X.xe s₁) X.xe s:=by
 refine cW (ha ag s σ H _ I h) λv s1 ⟨x,H1,I1,r1,q1⟩=>?_;refine cW (hb ag s1 σ H1 _ I1 q1) λu s2 ⟨y,H2,I2,r2,q2⟩=>?_;exact hf v u s2 x y H2 I2 r1 r2 q2
def aZ {op:Operator}{r:R2}(ho:kx X (binaryOp op) r)(ha:PE X a ta)(hb:PE X b tb):PE X (.BinOp a op b pos) (SJ r ta tb):=by
 intro ag s σ H Q I h;exact wpAny_BinOp (Ov ha hb I h λv u s2 x y H2 I2 rx ry q=>ho ag s2 σ H2 x y v u Q I2 rx ry q)
def lZ {op:UnaryOp}{r:V->Hp->VK->Prop}(ho:Yn X (unaryOp op) r)(ha:PE X a ta):PE X (.UnaryOp op a pos) (tUn r ta):=by
 intro ag s σ H Q I h;exact UnaryOp_ (cW (ha ag s σ H _ I h) λv s1 ⟨x,H1,I1,r1,q1⟩=>ho ag s1 σ H1 x v Q I1 r1 q1)
def Vo {f:Value->Value->Sem Value}{C:Int->Int->Prop}{g:Int->Int->Int}
  (rule:∀(i j:Int)(t u:Tok)(s:Shared)(Q:Value->Shared->Prop)(E:Value->Shared->Prop),C i j->Q (.int (g i j) s.toks) { s with toks:=s.toks+1 }->wpAny (model X.prog X.w) X.A (f (.int i t) (.int j u)) Q E s) :
  kx X f (rI C λi j=>.int (g i j)):=by
 intro ag s σ H x y v u Q I rx ry h;obtain⟨i,j,rfl,rfl,hc,q⟩:=h;obtain⟨t,rfl⟩:=rx;obtain⟨t',rfl⟩:=ry;exact rule i j t t' s _ _ hc ⟨.int (g i j),H,I.tok _,⟨_,rfl⟩,q⟩
def Ql {f:Value->Value->Sem Value}{g:Int->Int->Int}
  (rule:∀(i j:Int)(t u:Tok)(s:Shared)(Q:Value->Shared->Prop)(E:Value->Shared->Prop),Q (.int (g i j) s.toks) { s with toks:=s.toks+1 }->wpAny (model X.prog X.w) X.A (f (.int i t) (.int j u)) Q E s) :
  kx X f (MO λi j=>.int (g i j)):=by
 intro ag s σ H x y v u Q I rx ry h;obtain⟨i,j,rfl,rfl,q⟩:=h;obtain⟨t,rfl⟩:=rx;obtain⟨t',rfl⟩:=ry;exact rule i j t t' s _ _ ⟨.int (g i j),H,I.tok _,⟨_,rfl⟩,q⟩
def MX {f:Value->Value->Sem Value}{g:Int->Int->Bool}
  (rule:∀(i j:Int)(t u:Tok)(s:Shared)(Q:Value->Shared->Prop)(E:Value->Shared->Prop),Q (.bool (g i j)) s->wpAny (model X.prog X.w) X.A (f (.int i t) (.int j u)) Q E s) :
  kx X f (MO λi j=>.bl (g i j)):=by
 intro ag s σ H x y v u Q I rx ry h;obtain⟨i,j,rfl,rfl,q⟩:=h;obtain⟨t,rfl⟩:=rx;obtain⟨t',rfl⟩:=ry;exact rule i j t t' s _ _ ⟨.bl (g i j),H,I,rfl,q⟩
def Yz (i j:Int):Prop:=0 < j/\j < 1073741824
def OD (i j:Int):Prop:=(-(2 ^ 64) < i/\i < 2 ^ 64)\/(-(2 ^ 64) < j/\j < 2 ^ 64)
def OD.ok {i j:Int}(h:OD i j):IntMulOk i j:=by
 rcases h with ⟨h1,h2⟩ | ⟨h1,h2⟩
 .exact .of_left (intBits_le_64 h1 h2)
 exact .of_right (intBits_le_64 h1 h2)
def fY:kx X (binaryOp .Add) (MO λi j=>.int (i+j)):=Ql λ_ _ _ _ _ _ _ q=>add_int q
def Am:kx X (binaryOp .Sub) (MO λi j=>.int (i - j)):=Ql λ_ _ _ _ _ _ _ q=>sub_int q
def Ao:kx X (binaryOp .Mult) (rI OD λi j=>.int (i * j)):=Vo λ_ _ _ _ _ _ _ hc q=>mul_int q hc.ok
def fQ:kx X (binaryOp .FloorDiv) (rI Yz λi j=>.int (i / j)):=Vo λi j _ _ _ _ _ hc q=>by
 have h1:(0:Int) < j:=hc.1;have h2:j < 1073741824:=hc.2;exact floordiv_int (by omega) (by rw [Int.fdiv_eq_ediv_of_nonneg i (by omega)];exact q) (.inl (PyProof.noPylong_small (by omega)))
def fJ:kx X (binaryOp .Mod) (rI (λ_ j=>0 < j) λi j=>.int (i % j)):=Vo λi j _ _ _ _ _ hc q=>by
 have h1:(0:Int) < j:=hc;exact mod_int' (by omega) (by rw [Int.fmod_eq_emod_of_nonneg i (by omega)];exact q)
def unI {f:Value->Sem Value}{g:Int->Int}
  (rule:∀(i:Int)(t:Tok)(s:Shared)(Q:Value->Shared->Prop)(E:Value->Shared->Prop),Q (.int (g i) s.toks) { s with toks:=s.toks+1 }->wpAny (model X.prog X.w) X.A (f (.int i t)) Q E s) :
  Yn X f (rU λi=>.int (g i)):=by
 intro ag s σ H x v Q I rx h;obtain⟨i,rfl,q⟩:=h;obtain⟨t,rfl⟩:=rx;exact rule i t s _ _ ⟨.int (g i),H,I.tok _,⟨_,rfl⟩,q⟩
def i_:Yn X (unaryOp .USub) (rU λi=>.int (-i)):=unI λ_ _ _ _ _ q=>neg_int q
end
def P5:V->V->Bool
 | .eU,.eU=>true | .eU,.int _=>true | .int _,.eU=>true | .eU,.bl _=>true | .bl _,.eU=>true | .eU,.str _=>true | .str _,.eU=>true
 | .int _,.int _=>true | .bl _,.bl _=>true | .str _,.str _=>true | .Bd _,.Bd _=>true
 | .int _,.str _=>true | .str _,.int _=>true | .bl _,.str _=>true | .str _,.bl _=>true
 | _,_=>false
def rEq:R2:=λx y H Q=>P5 x y=true/\Q (.bl (decide (x=y))) H
def rNe:R2:=λx y H Q=>P5 x y=true/\Q (.bl (!decide (x=y))) H
def Cq {i j:Int}:decide (V.int i=V.int j)=(i == j):=by
 rw [m_];simp
def HZ {i j:Bool}:decide (V.bl i=V.bl j)=(i == j):=by
 rw [m_];simp
def Cp {i j:Str}:decide (V.str i=V.str j)=(i == j):=by
 rw [m_];simp
def Cr {i j:Array UInt8}:decide (V.Bd i=V.Bd j)=(i.toList == j.toList):=by
 rw [m_];cases i;cases j;simp
section
variable {X:Cx}{a b c:Expr}{ta tb tc:TE}{pos:Pos}
def cw {ag:List (Addr×Obj)}{σ:St}{H:Hp}{s:Shared}{Q:VK}{k k':Bool}(I:Inv X ag σ H s)(q:Q (.bl k) H)(e:k=k'):EP X ag σ Q (.bool k') s:=by
 subst e;exact⟨.bl k,H,I,rfl,q⟩
def iN:kx X (compareOp .Eq) rEq:=by
 intro ag s σ H x y v u Q I rx ry h;obtain⟨hs,q⟩:=h;cases x with
 | eU =>
  cases rx;cases y with
  | eU=>cases ry;exact PySem.EqNone.eq_none_none (cw I q (by simp))
  | bl j=>cases ry;exact PySem.EqNone.eq_none_bool (cw I q (by simp))
  | int j=>obtain⟨t',rfl⟩:=ry;exact PySem.EqNone.eq_none_int (cw I q (by simp))
  | str j=>obtain⟨t',rfl⟩:=ry;exact PySem.EqNone.eq_none_str (cw I q (by simp))
  | _=>exact absurd (show false=true from hs) cZ
 | bl i =>
  cases rx;cases y with
  | eU=>cases ry;exact PySem.EqNone.eq_bool_none (cw I q (by simp))
  | bl j=>cases ry;exact eq_bool (cw I q HZ)
  | str j=>obtain⟨t',rfl⟩:=ry;exact PySem.EqMixed.eq_bool_str (cw I q (by simp))
  | _=>exact absurd (show false=true from hs) cZ
 | int i =>
  obtain⟨t,rfl⟩:=rx;cases y with
  | eU=>cases ry;exact PySem.EqNone.eq_int_none (cw I q (by simp))
  | int j=>obtain⟨t',rfl⟩:=ry;exact eq_int (cw I q Cq)
  | str j=>obtain⟨t',rfl⟩:=ry;exact PySem.EqMixed.eq_int_str (cw I q (by simp))
  | _=>exact absurd (show false=true from hs) cZ
 | str i =>
  obtain⟨t,rfl⟩:=rx;cases y with
  | eU=>cases ry;exact PySem.EqNone.eq_str_none (cw I q (by simp))
  | bl j=>cases ry;exact PySem.EqMixed.eq_str_bool (cw I q (by simp))
  | int j=>obtain⟨t',rfl⟩:=ry;exact PySem.EqMixed.eq_str_int (cw I q (by simp))
  | str j=>obtain⟨t',rfl⟩:=ry;exact eq_str (cw I q Cp)
  | _=>exact absurd (show false=true from hs) cZ
 | Bd i =>
  obtain⟨t,rfl⟩:=rx;cases y with
  | Bd j=>obtain⟨t',rfl⟩:=ry;exact PySem.W.eq_bytes (cw I q Cr)
  | _=>exact absurd (show false=true from hs) cZ
 | _=>cases y <;> exact absurd (show false=true from hs) cZ
def Ca:kx X (compareOp .NotEq) rNe:=by
 intro ag s σ H x y v u Q I rx ry h;obtain⟨hs,q⟩:=h;cases x with
 | eU =>
  cases rx;cases y with
  | eU=>cases ry;exact PySem.EqNone.ne_none_none (cw I q (by simp))
  | bl j=>cases ry;exact PySem.EqNone.ne_none_bool (cw I q (by simp))
  | int j=>obtain⟨t',rfl⟩:=ry;exact PySem.EqNone.ne_none_int (cw I q (by simp))
  | str j=>obtain⟨t',rfl⟩:=ry;exact PySem.EqNone.ne_none_str (cw I q (by simp))
  | _=>exact absurd (show false=true from hs) cZ
 | bl i =>
  cases rx;cases y with
  | eU=>cases ry;exact PySem.EqNone.ne_bool_none (cw I q (by simp))
  | bl j=>cases ry;exact ne_bool (cw I q (congrArg not HZ))
  | str j=>obtain⟨t',rfl⟩:=ry;exact PySem.EqMixed.ne_bool_str (cw I q (by simp))
  | _=>exact absurd (show false=true from hs) cZ
 | int i =>
  obtain⟨t,rfl⟩:=rx;cases y with
  | eU=>cases ry;exact PySem.EqNone.ne_int_none (cw I q (by simp))
  | int j=>obtain⟨t',rfl⟩:=ry;exact ne_int (cw I q (congrArg not Cq))
  | str j=>obtain⟨t',rfl⟩:=ry;exact PySem.EqMixed.ne_int_str (cw I q (by simp))
  | _=>exact absurd (show false=true from hs) cZ
 | str i =>
  obtain⟨t,rfl⟩:=rx;cases y with
  | eU=>cases ry;exact PySem.EqNone.ne_str_none (cw I q (by simp))
  | bl j=>cases ry;exact PySem.EqMixed.ne_str_bool (cw I q (by simp))
  | int j=>obtain⟨t',rfl⟩:=ry;exact PySem.EqMixed.ne_str_int (cw I q (by simp))
  | str j=>obtain⟨t',rfl⟩:=ry;exact ne_str (cw I q (congrArg not Cp))
  | _=>exact absurd (show false=true from hs) cZ
 | Bd i =>
  obtain⟨t,rfl⟩:=rx;cases y with
  | Bd j=>obtain⟨t',rfl⟩:=ry;exact PySem.W.ne_bytes (cw I q (congrArg not Cr))
  | _=>exact absurd (show false=true from hs) cZ
 | _=>cases y <;> exact absurd (show false=true from hs) cZ
def qg:kx X (compareOp .Lt) (MO λi j=>.bl (decide (i < j))):=MX λ_ _ _ _ _ _ _ q=>lt_int q
def Qk:kx X (compareOp .LtE) (MO λi j=>.bl (decide (i<=j))):=MX λ_ _ _ _ _ _ _ q=>le_int q
def ye:kx X (compareOp .Gt) (MO λi j=>.bl (decide (j < i))):=MX λ_ _ _ _ _ _ _ q=>gt_int q
def kx.or {f:Value->Value->Sem Value}{r r':R2}(h:kx X f r)(h':kx X f r'):kx X f (λx y H Q=>r x y H Q\/r' x y H Q):=by
 intro ag s σ H x y v u Q I rx ry q;rcases q with q | q
 .exact h ag s σ H x y v u Q I rx ry q
 exact h' ag s σ H x y v u Q I rx ry q
def bV (b:Expr){op:CmpOp}(h:op≠.In:=by decide)(h2:op≠.NotIn:=by decide):behindInMarks op b=false:=by
 have e1:(op == CmpOp.In)=false:=by cases op <;> first | rfl | exact absurd rfl h
 have e2:(op == CmpOp.NotIn)=false:=by cases op <;> first | rfl | exact absurd rfl h2
 cases b <;> simp [behindInMarks,e1,e2]
def ff {op:CmpOp}{r:R2}(ho:kx X (compareOp op) r)(ha:PE X a ta)(hb:PE X b tb)(hm:behindInMarks op b=false):PE X (.Compare a [op] [b] pos) (SJ r ta tb):=by
 intro ag s σ H Q I h;exact wpAny_Compare1 (Ov ha hb I h λv u s2 x y H2 I2 rx ry q=>ho ag s2 σ H2 x y v u Q I2 rx ry q) hm
def Py (t:TE):TT:=λσ H Q=>t σ H λx H'=>∃k,x=.bl k/\Q k H'
def bw {op:CmpOp}{r:R2}(ho:kx X (compareOp op) r)(ha:PE X a ta)(hb:PE X b tb)(hm:behindInMarks op b=false):PT X (.Compare a [op] [b] pos) (Py (SJ r ta tb)):=by
 intro ag s σ H Q I h;refine wpAny_isTrue_Compare1 (cW (ha ag s σ H _ I h) λv s1 ⟨x,H1,I1,r1,q1⟩=>cW (hb ag s1 σ H1 _ I1 q1) λu s2 ⟨y,H2,I2,r2,q2⟩ =>
  cW (ho ag s2 σ H2 x y v u _ I2 r1 r2 q2) λc s3 ⟨z,H3,I3,r3,k,e,q3⟩=>?_) hm
 subst e;cases r3;exact ni ⟨H3,I3,q3⟩
def Ml (r r':R2)(ta tb tc:TE):TE:=λσ H Q=>ta σ H λx H1=>tb σ H1 λy H2=>r x y H2 λz H3=>∃k,z=.bl k /\
 (if k=true then tc σ H3 λw' H4=>r' y w' H4 Q else Q (.bl false) H3)
def Gd {op Vp:CmpOp}{r r':R2}(ho:kx X (compareOp op) r)(Hl:kx X (compareOp Vp) r')(ha:PE X a ta)(hb:PE X b tb)(hc:PE X c tc)
  (hm:lastMarks [op,Vp] [b,c]=false:=by with_unfolding_all rfl):PE X (.Compare a [op,Vp] [b,c] pos) (Ml r r' ta tb tc):=by
 intro ag s σ H Q I h;refine Compare_chain (cW (ha ag s σ H _ I h) λv s1 ⟨x,H1,I1,r1,q1⟩=>chain_link (cW (hb ag s1 σ H1 _ I1 q1) λu s2 ⟨y,H2,I2,r2,q2⟩ =>
  cW (ho ag s2 σ H2 x y v u _ I2 r1 r2 q2) λd s3 ⟨z,H3,I3,r3,k,e,q3⟩=>?_)) hm
 subst e;cases r3;refine ni ?_;cases k with
 | false=>exact ite_ff ⟨.bl false,H3,I3,rfl,q3⟩
 | true=>exact ite_tt (chain_last (cW (hc ag s3 σ H3 _ I3 q3) λw' s4 ⟨z',H4,I4,r4,q4⟩=>Hl ag s4 σ H4 y z' u w' Q I4 r2 r4 q4))
def Io (K:a8)(x:V)(H:Hp)(k:Bool):Prop :=
 match x with
 | .eU=>k=false
 | .bl b=>k=b
 | .int i=>k=(i != 0)
 | .str y=>y.length<=sizeLine/\k=((y.length:Int) != 0)
 | .Bd y=>y.size<=sizeLine/\k=((y.size:Int) != 0)
 | .ref p=>(∃xs,aG K H p xs/\k=!xs.isEmpty)\/(∃xs,aR K H p xs/\k=!xs.isEmpty)\/∃kvs,H p=some (.dK kvs)/\k=!kvs.isEmpty
 | _=>False
def AJ {κ:Type}{kvs:List (κ×V)}{vs:List (κ×Value)}(r:KV kvs vs):(!vs.isEmpty)=!kvs.isEmpty:=by
 cases r <;> rfl
def sM {xs:List V}{aN:List Value}(r:aY xs aN):(!aN.toArray.isEmpty)=!xs.isEmpty:=by
 cases r <;> simp
def wO:(sizeLine:Nat) < 2 ^ 63:=by rw [sizeLine_eq];decide
def Me:Yo X (λx H Q=>∃k,Io X.K x H k/\Q k H):=by
 intro ag s σ H x v Q I rx h;obtain⟨k,e,q⟩:=h;have hl:=wO;have hs:sizeLine=16777216:=sizeLine_eq;cases x with
 | eU =>
  cases rx;have e':k=false:=e;subst e';exact truthy_none ⟨H,I,q⟩
 | bl b =>
  cases rx;have e':k=b:=e;subst e';exact ni ⟨H,I,q⟩
 | int i =>
  obtain⟨t,rfl⟩:=rx;have e':k=(i != 0):=e;subst e';exact PySem.P.truthy_int ⟨H,I,q⟩
 | str y =>
  obtain⟨t,rfl⟩:=rx;obtain⟨hy,e'⟩:y.length<=sizeLine/\k=((y.length:Int) != 0):=e;subst e';exact PySem.P.truthy_str (by omega) ⟨H,I.tok _,q⟩
 | Bd y =>
  obtain⟨t,rfl⟩:=rx;obtain⟨hy,e'⟩:y.size<=sizeLine/\k=((y.size:Int) != 0):=e;subst e';exact PySem.W.truthy_bytes (by omega) ⟨H,I.tok _,q⟩
 | ref p =>
  cases rx;have e':(∃xs,aG X.K H p xs/\k=!xs.isEmpty)\/(∃xs,aR X.K H p xs/\k=!xs.isEmpty)\/∃kvs,H p=some (.dK kvs)/\k=!kvs.isEmpty:=e;rcases e' with ⟨xs,hx,e'⟩ | ⟨xs,hx,e'⟩ | ⟨kvs,hx,e'⟩
  .subst e';obtain⟨aN,r,pl,hz⟩:=I.list hx;have br:=r.length;exact wpAny_truthy_list pl.isList (by simp only [bN];omega) ⟨H,I.tok _,by rw [sM r];exact q⟩
  .subst e';obtain⟨aN,r,pl,hz⟩:=I.tuple hx;have br:=r.length;exact truthy_tuple pl (by simp only [bN];omega) ⟨H,I.tok _,by rw [sM r];exact q⟩
  subst e';obtain⟨hz,hS,vs,r,m⟩:kvs.length<=sizeLine/\(p == sysModules)=false/\∃vs,KV kvs vs/\s.heap.DictOf (bh X.prog X.w) p vs:=I.bY p _ hx;have br:kvs.length=vs.length:=a_ r;exact wpAny_truthy_dict hS m (by omega) ⟨H,I.tok _,by rw [AJ r];exact q⟩
 | _=>exact(show False from e).elim
def iK (ha:PE X a ta)(he:∀whole,isTrue a X.env whole=(do let v <-whole;standAt a.pos;holding [v] (truthy v))) :
  PT X a (λσ H Q=>ta σ H λx H'=>∃k,Io X.K x H' k/\Q k H'):=by
 intro ag s σ H Q I h;exact isTrue_plain (cW (ha ag s σ H _ I h) λv s1 ⟨x,H1,I1,r1,q1⟩=>Me ag s1 σ H1 x v Q I1 r1 q1) (he _)
def Ap:kx X (binaryOp .Add) (λx y H Q=>∃i j,x=.str i/\y=.str j/\i.length+j.length<=sizeLine/\Q (.str (i++j)) H):=by
 intro ag s σ H x y v u Q I rx ry h;obtain⟨i,j,rfl,rfl,hz,q⟩:=h;obtain⟨t,rfl⟩:=rx;obtain⟨t',rfl⟩:=ry;exact add_str (λt' tk=>⟨.str (i++j),H,I.tok _,⟨_,rfl⟩,q⟩) hz
def vals1 {x:V}{us:List Value}(r:aY [x] us):∃u,us=[u]/\RelV x u:=by
 cases r with
 | cons r1 r2=>cases r2;exact⟨_,rfl,r1⟩
def vals2 {x y:V}{us:List Value}(r:aY [x,y] us):∃u w',us=[u,w']/\RelV x u/\RelV y w':=by
 cases r with
 | cons r1 r2 =>
  cases r2 with
  | cons r3 r4=>cases r4;exact⟨_,_,rfl,r1,r3⟩
def Ew (hc:X.calm=true):ig X (.builtin "max") (λxs H Q=>∃i j,xs=[.int i,.int j]/\Q (.int (if j > i then j else i)) H):=by
 intro ag s σ H xs us Q I r h;obtain⟨i,j,rfl,q⟩:=h;obtain⟨u,w',rfl,⟨t,rfl⟩,⟨t',rfl⟩⟩:=vals2 r;refine max_two_ints (I.ok.hd hc) λh' tk k=>⟨_,H,I.kept k,?_,q⟩;by_cases hj:j > i
 .rw [ax hj,ax hj];exact⟨_,rfl⟩
 rw [aw hj,aw hj];exact⟨_,rfl⟩
end
structure Bk (h:Heap)(x dx C:Addr)(mA:Str->Option Value):Prop where
 obj:h.get? x=some (PySem.W.instObj C dx)
 ns:h.Ns1 dx mA
 ne:dx≠x
def Dw {h:Heap}{dx:Addr}{mA:Str->Option Value}(n:h.Ns1 dx mA):∃od,h.get? dx=some od/\∀name,PySem.W.lookIn name od=some (mA name):=by
 obtain⟨o,es,ep,ho,hd,hk,_,hm⟩:=n;refine⟨o,ho,λname=>?_⟩;have e:=hm name;unfold nsFind findBy at e;rw [<-Array.find?_toList] at e;unfold PySem.W.lookIn;rw [hd];dsimp only
 split
 .rename_i y q
  rw [q] at e;exact congrArg some e
 rename_i q
 rw [q] at e;have a:es.toList.any (·.refKey)=false:=by
  rw [List.any_eq_false];intro y hy;obtain⟨z,t,Kb⟩:=hk y (Array.mem_toList_iff.mp hy);simp [DictEntry.refKey,Kb]
 have a':¬es.toList.any (·.refKey)=true:=by rw [a];exact cZ
 rw [aw a'];exact congrArg some e
def Bk.look {h:Heap}{x dx C:Addr}{mA:Str->Option Value}(I:Bk h x dx C mA):∃od,PySem.W.InstAt h x (PySem.W.instObj C dx) C (some od)/\∀name,PySem.W.lookIn name od=some (mA name) :=
 let ⟨od,ho,hl⟩:=Dw I.ns
 ⟨od,⟨I.obj,rfl,rfl,ho⟩,hl⟩
section
variable {prog:Program}{w:World}{A:Around}{E:Value->Shared->Prop}{s:Shared}{K:a8}{x dx C f:Addr}{mA:Str->Option Value}{name:Str}{v:Value}
def get_map {expr:Bool}{Q:Value->Shared->Prop}(X:K.In s.heap)(I:Bk s.heap x dx C mA)(hg:PySem.W.plainGet K C name=true)(hh:PySem.W.hasDictIn K C=true)
  (ha:PySem.W.findIn K (.ref C) name=some none)(hv:mA name=some v)(hv':PySem.W.handedIn v=true)(h:Q v { s with toks:=s.toks+1 }) :
  wpAny (model prog w) A (getAttr (.ref x) name expr) Q E s:=by
 obtain⟨od,J,hl⟩:=I.look;exact PySem.W.get_value X J (PySem.W.plainGet_of hg).1 (PySem.W.findObj_own hh ha rfl (by rw [hl,hv])) hv' h
def Hz {pl:Sem Bool}{Q:Value×List Value->Shared->Prop}(X:K.In s.heap)(I:Bk s.heap x dx C mA)(hg:PySem.W.plainGet K C name=true)
  (hf:PySem.W.findIn K (.ref C) name=some (some (.ref f)))(ht:PySem.W.isFn K (.ref f)=true)(hv:mA name=none)(h:Q (.ref f,[.ref x]) s) :
  wpAny (model prog w) A (getMethod (.ref x) name pl) Q E s:=by
 obtain⟨od,J,hl⟩:=I.look;exact PySem.W.method_fn X J (PySem.W.plainGet_of hg).1 (PySem.W.plainGet_of hg).2 hf (beq_iff_eq.mp ht) (by show (PySem.W.lookIn name od).map (·.isSome)=some false;rw [hl,hv];rfl) h
def Jn {ns:List Str}{Q:Unit->Shared->Prop}(X:K.In s.heap)(I:Bk s.heap x dx C mA)
  (hs:PySem.W.findIn K (.ref C) "__setattr__"=some (some (.builtin "object.__setattr__")))(hp:PySem.W.plainOver K C=true)(ht:PySem.W.takerIn K C name=some none)(hh:PySem.W.hasDictIn K C=true)
  (hw:PySem.Within mA ns)(hsz:ns.length<=sizeLine)
  (h:∀h',Bk h' x dx C (λy=>if y=name then some v else mA y)->Heap.SameBut dx s.heap h'->Q () { s with heap:=h',toks:=s.toks+2 }) :
  wpAny (model prog w) A (setAttr (.ref x) name v) Q E s:=by
 obtain⟨od,J,hl⟩:=I.look;refine PySem.W.set_plain X J hs (PySem.W.osa_open (s:={ s with toks:=s.toks+1 }) (r:=none) X J hp ht λb=>?_);obtain⟨cd,hc,DM⟩:=PySem.W.any_some hh;have hx:s.heap.get? x=some ⟨.ref C,some dx,.plain,#[]⟩:=I.obj;refine aq (aH (aq (aq (wpAny_loadPart hx (aq (PySem.W.Looks.here (s:={ s with toks:=s.toks+1 }) (PySem.W.looks_clsIn X hc) ?_))))));rw [DM];refine aH (a:=some dx) (aq (aH (aq ?_)));refine wpAny_nsSet1 (s:={ s with toks:=s.toks+1 }) I.ns λh' Hn Tt=>?_;obtain⟨oD,esD,epD,hoD,hdD,hcD⟩:=Hn.count (PySem.Within.cons name v hw);refine aq (wpAny_lookBehind hoD (by rw [hdD];exact pastItsLine_dict (dH hcD (by rw [dQ];omega))) ?_);exact aH (h _ ⟨(Tt.2 _ (fk I.ne)).trans I.obj,Hn,I.ne⟩ Tt)
def G0 {R:Result->Shared->Prop}{vs:List Value}{kw:List (Str×Value)}(X:K.In s.heap)(hm:PySem.W.makesIn K C=true)
  (hi:PySem.W.findIn K (.ref C) "__init__"=some (some (.ref f)))(hf:PySem.W.typeIn K (.ref f)=some (.type "function"))
  (h:codeAny (model prog w) (A.under (.builtin "type.__call__" ⟨.ref C::vs,kw⟩)) (.call (.ref f) ⟨.ref (s.heap.objs.size+1)::vs,kw⟩) (PySem.W.InitBack (s.heap.objs.size+1) R)
   { s with heap:=(s.heap.push PySem.W.emptyDict).push (PySem.W.instObj C s.heap.objs.size) }) :
  codeAny (model prog w) A (.call (.ref C) ⟨vs,kw⟩) R s:=by
 obtain⟨hh,g,d,t,os⟩:=s;exact PySem.W.make_core (PySem.W.makes_of X hm) (PySem.W.looks_findIn X hi) (λself=>PySem.W.bind_fn X self hf) (.inl rfl) h
end
def dS (f:Str)(v:V):List (Str×V)->List (Str×V)
 | []=>[(f,v)]
 | (g,x)::r=>if g=f then (g,v)::r else (g,x)::dS f v r
theorem qh (f g:Str)(v:V):∀fs:List (Str×V),(dS f v fs).lookup g=if g=f then some v else fs.lookup g
 | []=>by
  show List.lookup g [(f,v)]=_;by_cases h:g=f
  .have hb:(g == f)=true:=beq_iff_eq.mpr h;simp only [List.lookup,hb,ax h]
  have hb:(g == f)=false:=kM.mpr h;simp only [List.lookup,hb,aw h]
 | (k,x)::r=>by
  have ih:=qh f g v r;rw [show dS f v ((k,x)::r)=(if k=f then (k,v)::r else (k,x)::dS f v r) from rfl];by_cases hk:k=f
  .rw [ax hk];by_cases h:g=k
   .have hb:(g == k)=true:=beq_iff_eq.mpr h;simp only [List.lookup,hb,ax (h.trans hk)]
   have hb:(g == k)=false:=kM.mpr h;simp only [List.lookup,hb,aw (λe:g=f=>h (e.trans hk.symm))]
  rw [aw hk];by_cases h:g=k
  .have hb:(g == k)=true:=beq_iff_eq.mpr h;simp only [List.lookup,hb,aw (λe:g=f=>hk (h.symm.trans e))]
  have hb:(g == k)=false:=kM.mpr h;simp only [List.lookup,hb];exact ih
theorem pH (f:Str)(v:V):∀fs:List (Str×V),f∈(dS f v fs).map (·.1)/\∀g,g∈fs.map (·.1)->g∈(dS f v fs).map (·.1)
 | []=>⟨by simp [dS],λg h=>by simp at h⟩
 | (k,x)::r=>by
  obtain⟨i1,i2⟩:=pH f v r;rw [show dS f v ((k,x)::r)=(if k=f then (k,v)::r else (k,x)::dS f v r) from rfl];by_cases hk:k=f
  .rw [ax hk];subst hk;exact⟨by simp,λg h=>by simpa using h⟩
  rw [aw hk];refine⟨?_,λg h=>?_⟩
  .rw [cN];exact cV _ i1
  rw [cN] at h ⊢;rcases bX.mp h with e | e
  .exact bX.mpr (.inl e)
  exact cV _ (i2 g e)
theorem qi (f:Str)(v:V):∀fs:List (Str×V),(dS f v fs).length<=fs.length+1
 | []=>by simp [dS]
 | (k,x)::r=>by
  have ih:=qi f v r;rw [show dS f v ((k,x)::r)=(if k=f then (k,v)::r else (k,x)::dS f v r) from rfl];by_cases hk:k=f
  .rw [ax hk,dQ,dQ];omega
  rw [aw hk,dQ,dQ];omega
def jV.some_of {v:V}{o:Option Value}(r:jV (some v) o):∃u,o=some u/\RelV v u:=by
 cases o with
 | none=>exact(show False from r).elim
 | some u=>exact⟨u,rfl,r⟩
def jV.none_of {o:Option Value}(r:jV none o):o=none:=by
 cases o with
 | none=>rfl
 | some u=>exact(show False from r).elim
def DN {v:V}{u:Value}(r:RelV v u):PySem.W.handedIn u=true:=by
 cases v with
 | eU=>cases (show u=Value.none from r);rfl
 | bl b=>cases (show u=Value.bool b from r);rfl
 | int i=>obtain⟨t,e⟩:=(show ∃t,u=Value.int i t from r);cases e;rfl
 | str x=>obtain⟨t,e⟩:=(show ∃t,u=Value.str x t from r);cases e;rfl
 | Bd b=>obtain⟨t,e⟩:=(show ∃t,u=Value.bytes b t from r);cases e;rfl
 | N1 b=>obtain⟨t,e⟩:=(show ∃t,u=Value.float b t from r);cases e;rfl
 | ref a=>cases (show u=Value.ref a from r);rfl
 | ty n=>cases (show u=Value.type n from r);rfl
section
variable {P:Program}{w:World}{H H':Hp}{h h':Heap}{a C dx:Addr}{fs IV:List (Str×V)}
def wV (bY:mi P w H h)(e:H a=some (.ins C dx fs)):∃mA,Bk h a dx C mA/\(∀f,jV (fs.lookup f) (mA f))/\PySem.Within mA (fs.map (·.1))/\fs.length<=1000/\H dx=some (.own a):=by
 obtain⟨d,z,ne,ob,mA,n,r,q⟩:=(show cK P w H h a (.ins C dx fs) from bY a _ e);exact⟨mA,⟨ob,n,ne⟩,r,q,z,d⟩
end
structure EG (K:a8)(C:Addr):Prop where
 pg:PySem.W.plainGet K C Str.empty=true
 hd:PySem.W.hasDictIn K C=true
 po:PySem.W.plainOver K C=true
 sa:PySem.W.findIn K (.ref C) "__setattr__"=some (some (.builtin "object.__setattr__"))
def EG.get {K:a8}{C:Addr}(c:EG K C)(f:Str):PySem.W.plainGet K C f=true:=c.pg
def dZ (K:a8)(C:Addr)(f:Str):Prop:=PySem.W.findIn K (.ref C) f=some none
def dZ.Pw {K:a8}{C:Addr}{f:Str}(n:dZ K C f):PySem.W.takerIn K C f=some none:=by
 unfold PySem.W.takerIn;rw [show PySem.W.findIn K (.ref C) f=some none from n];rfl
structure Con (K:a8)(C:Addr)(f:Str)(v:V)(u:Value):Prop where
 at_:PySem.W.findIn K (.ref C) f=some (some u)
 rel:RelV v u
 get:PySem.W.specialIn K u "__get__"=some none
 cp:PySem.W.copiedNames.contains f=false
structure Meth (K:a8)(C:Addr)(m:Str)(f:Addr):Prop where
 at_:PySem.W.findIn K (.ref C) m=some (some (.ref f))
 fn:PySem.W.isFn K (.ref f)=true
 kp:PySem.W.keepIn K (.ref f)=true
section
variable {X:Cx}{ag:List (Addr×Obj)}{σ:St}{H:Hp}{s:Shared}{a C dx:Addr}{fs:List (Str×V)}{f:Str}{v:V}{A:Around}{E:Value->Shared->Prop}
def AU {b:Bool}{Q:Value->Shared->Prop}(I:Inv X ag σ H s)(e:H a=some (.ins C dx fs))(c:EG X.K C)(n:dZ X.K C f)(l:fs.lookup f=some v)
  (h:∀u s',Inv X ag σ H s'->RelV v u->Q u s'):wpAny (model X.prog X.w) A (getAttr (.ref a) f b) Q E s:=by
 obtain⟨mA,O,r,_,_,_⟩:=wV I.bY e;obtain⟨u,hu,ru⟩:=jV.some_of (v:=v) (o:=mA f) (by rw [<-l];exact r f);exact get_map I.wU O (c.get f) c.hd n hu (DN ru) (h u _ (I.tok _) ru)
def sR {m:Str}{g:Addr}{pl:Sem Bool}{Q:Value×List Value->Shared->Prop}(I:Inv X ag σ H s)(e:H a=some (.ins C dx fs))(c:EG X.K C)(k:Meth X.K C m g)(l:fs.lookup m=none)
  (h:Q (.ref g,[.ref a]) s):wpAny (model X.prog X.w) A (getMethod (.ref a) m pl) Q E s:=by
 obtain⟨mA,O,r,_,_,_⟩:=wV I.bY e;have hn:mA m=none:=jV.none_of (by rw [<-l];exact r m);exact Hz I.wU O (c.get m) k.at_ k.fn hn h
def zQ {y:V}{u:Value}{Q:Unit->Shared->Prop}(I:Inv X ag σ H s)(e:H a=some (.ins C dx fs))(c:EG X.K C)(n:dZ X.K C f)(hl:fs.length < 1000)(ry:RelV y u)
  (h:∀s',Inv X ag σ (upd H a (.ins C dx (dS f y fs))) s'->Q () s'):wpAny (model X.prog X.w) A (setAttr (.ref a) f u) Q E s:=by
 obtain⟨mA,O,r,wi,_,ho⟩:=wV I.bY e;have hz:(fs.map (·.1)).length<=sizeLine:=by rw [av,sizeLine_eq];omega
 refine Jn I.wU O c.sa c.po n.Pw c.hd wi hz λh' O' sb=>h _ ?_;have hd:∃o,h'.get? dx=some o:=let ⟨o,_,_,e',_⟩:=O'.ns;⟨o,e'⟩;refine I.write (x:=a) (e:=dx) (by rw [e];exact True.intro) (.inr ho) (λb q hb z=>(sb.2 b hb).trans z) hd ?_;refine⟨by rw [ai O.ne];exact ho,?_,O.ne,O'.obj,_,O'.ns,λg=>?_,λg hg=>?_⟩
 .have:=qi f y fs;omega
 .show jV ((dS f y fs).lookup g) (if g=f then some u else mA g);rw [qh];by_cases q:g=f
  .rw [ax q,ax q];exact ry
  rw [aw q,aw q];exact r g
 by_cases q:g=f
 .rw [q];exact(pH f y fs).1
 refine(pH f y fs).2 g (wi g λz=>hg ?_);show (if g=f then some u else mA g)=none;rw [aw q];exact z
def Inv.made (I:Inv X ag σ H s):Inv X ag σ (upd (upd H s.heap.objs.size (.own (s.heap.objs.size+1))) (s.heap.objs.size+1) (.ins C s.heap.objs.size []))
  { s with heap:=(s.heap.push PySem.W.emptyDict).push (PySem.W.instObj C s.heap.objs.size) }:=by
 have e1:(s.heap.push PySem.W.emptyDict).get? s.heap.objs.size=some PySem.W.emptyDict:=cy s.heap rfl;have e2:((s.heap.push PySem.W.emptyDict).push (PySem.W.instObj C s.heap.objs.size)).get? (s.heap.objs.size+1)=some (PySem.W.instObj C s.heap.objs.size):=by
  have:=cy (s.heap.push PySem.W.emptyDict) (o:=PySem.W.instObj C s.heap.objs.size) rfl;rwa [j5] at this
 have e3:(s.heap.push PySem.W.emptyDict).Ns s.heap.objs.size (λ_=>none):=⟨PySem.W.emptyDict,#[],_,e1,rfl,(λe he=>absurd he (by simp)),λ_=>rfl⟩;have I1:=I.laid (a:=s.heap.objs.size) (o:=.own (s.heap.objs.size+1)) (h':=s.heap.push PySem.W.emptyDict) (t':=s.toks) (λb u q=>bG _ q) (aD _) ⟨_,e1⟩;refine I1.laid (a:=s.heap.objs.size+1) (o:=.ins C s.heap.objs.size []) (t':=s.toks) (λb u q=>bG _ q) (Nat.le_of_eq (j5 _ _)) ?_;have ne:s.heap.objs.size≠s.heap.objs.size+1:=bD (j7 _);refine⟨by rw [ai ne,ae],fh _,ne,e2,λ_=>none,(Heap.Ns1.of_empty e3).at λo q=>bG _ q,λ_=>True.intro,λy hy=>absurd rfl hy⟩
def Ky {prog:Program}{w:World}{env:Env}{e:Expr}{f:Str}{pos:Pos}{s:Shared}{Q:Value->Shared->Prop}(hb:attributeBase e f env (eval e env)=eval e env)
  (h:wpAny (model prog w) A (eval e env) (λo s₁=>wpAny (model prog w) A (getAttr o f true) Q E s₁) E s):wpAny (model prog w) A (eval (.Attribute e f pos) env) Q E s :=
 Attribute_any_ h (by rw [arm_eval_Attribute,hb])
end
def UY (K:a8)(ta:TE)(f:Str):TE:=λσ H Q=>ta σ H λx H1=>∃a C dx fs v,x=.ref a/\H1 a=some (.ins C dx fs)/\EG K C/\dZ K C f/\fs.lookup f=some v/\Q v H1
def U8 (K:a8)(ta tv:TE)(f:Str):TS:=λD σ H=>tv σ H λy H1=>ta σ H1 λx H2=>∃a C dx fs,x=.ref a/\H2 a=some (.ins C dx fs)/\EG K C/\dZ K C f/\fs.length < 1000 /\
 D.nx σ (upd H2 a (.ins C dx (dS f y fs)))
section
variable {X:Cx}{o e value:Expr}{f:Str}{pos pos' vQ:Pos}{ta tv:TE}
def eZ (he:PE X e ta)(hb:attributeBase e f X.env (eval e X.env)=eval e X.env):PE X (.Attribute e f pos) (UY X.K ta f):=by
 intro ag s σ H Q I h;refine Ky hb (cW (he ag s σ H _ I h) λu s1 ⟨x,H1,I1,rx,a,C,dx,fs,v,ex,ea,c,n,l,q⟩=>?_);subst ex;obtain rfl:u=Value.ref a:=rx;exact AU I1 ea c n l λu' s2 I2 ru=>⟨v,H1,I2,ru,q⟩
def gM (ha:PE X o ta)(hv:PE X value tv)(hs:swapsWith value (some (.Attribute o f pos')) pos.line X.env=pure false):PS X (.Assign [.Attribute o f pos'] value pos) (U8 X.K ta tv f):=by
 intro ag s σ H D I h;refine plainObj_wpAny_Assign_Attribute (cW (hv ag s σ H _ I h) λu s1 ⟨y,H1,I1,ry,q⟩=>cW (ha ag s1 σ H1 _ I1 q) λov s2 ⟨x,H2,I2,rx,a,C,dx,fs,ex,ea,c,n,l,q2⟩=>?_) hs;subst ex;obtain rfl:ov=Value.ref a:=rx;exact zQ I2 ea c n l ry λs3 I3=>⟨σ,_,I3,q2⟩
def La {pl:Sem Bool}{m:Str}{apos:Pos}{args:List Expr}{ag:List (Addr×Obj)}{s:Shared}{σ:St}{H:Hp}{Q:Value->Shared->Prop}{te:TE}(he:PE X e te)(I:Inv X ag σ H s)
  (h:te σ H λx H1=>∃a C dx fs g,x=.ref a/\H1 a=some (.ins C dx fs)/\EG X.K C/\Meth X.K C m g/\fs.lookup m=none /\
   ∀s1,Inv X ag σ H1 s1->wpAny (model X.prog X.w) X.A (callWith pos (.ref g) [.ref a] (backTo pos (starEach args X.env)) (backToKw pos (keywordEach [] X.env))) Q X.xe s1)
  (ht:eval (.Call (.Attribute e m apos) args [] pos) X.env=(do
   let ov <-eval e X.env
   standAt apos.atName
   let (f,first) <-holding [ov] (getMethod ov m pl)
   callWith pos f first (backTo pos (starEach args X.env)) (backToKw pos (keywordEach [] X.env)))) :
  wpAny (model X.prog X.w) X.A (eval (.Call (.Attribute e m apos) args [] pos) X.env) Q X.xe s:=by
 refine PySem.W.methodCall_KW (pl:=pl) (cW (he ag s σ H _ I h) λu s1 ⟨x,H1,I1,rx,a,C,dx,fs,g,ex,ea,c,k,l,q⟩=>?_) ht;subst ex;obtain rfl:u=Value.ref a:=rx;exact sR I1 ea c k l (q s1 I1)
end
section
variable {X:Cx}{ag:List (Addr×Obj)}{σ:St}{H:Hp}{s:Shared}{A:Around}{E:Value->Shared->Prop}{Q:Value->Shared->Prop}{c:Value}{b:Bool}
inductive tR (K:a8)(H:Hp):V->Value->Prop where
 | eU:tR K H .eU (.type "NoneType")
 | bl (x:Bool):tR K H (.bl x) (.type "bool")
 | int (i:Int):tR K H (.int i) (.type "int")
 | str (x:Str):tR K H (.str x) (.type "str")
 | N1 (x:UInt64):tR K H (.N1 x) (.type "float")
 | lst {a:Addr}{xs:List V}(e:H a=some (.lst xs)):tR K H (.ref a) (.type "list")
 | ku {a:Addr}{o:Obj}{xs:List V}(e:H a=some (.ku o (.lst xs))):tR K H (.ref a) (.type "list")
 | tup {a:Addr}{xs:List V}(e:H a=some (.tup xs)):tR K H (.ref a) (.type "tuple")
 | dK {a:Addr}{kvs:List (aL×V)}(e:H a=some (.dK kvs)):tR K H (.ref a) (.type "dict")
 | dT {a:Addr}{kvs:List (List aL×V)}(e:H a=some (.dT kvs)):tR K H (.ref a) (.type "dict")
 | ins {a C dx:Addr}{fs:List (Str×V)}(e:H a=some (.ins C dx fs))(cl:EG K C)(ha:PySem.W.findIn K (.ref C) "__class__"=some (some (.builtin "object.__class__")))
   (hn:PySem.W.specialIn K (.builtin "object.__class__") "__get__"=some (some (.builtin "getset_descriptor.__get__")))(htk:PySem.W.takesIn K (.builtin "object.__class__")=some true)
   (hm:PySem.W.mroIn K C (.type "object")=some true):tR K H (.ref a) (.ref C)
end
structure fg (k:Nat)(A:Around):Prop where
 hd:A.handled=none
 dp:A.depth+3 * k+5 < recursionLimit
 un:A.units+16 * k+200 < cLine
def fg.mono {j k:Nat}{A:Around}(r:fg k A)(h:j<=k):fg j A:=⟨r.hd,by have:=r.dp;omega,by have:=r.un;omega⟩
theorem fg.deeper {k:Nat}{A:Around}(r:fg (k+1) A)(env:Env):fg k (A.deeper env) :=
 ⟨r.hd,by have:=r.dp;show A.depth+1+3 * k+5 < _;omega,by have:=r.un;show A.units+3+16 * k+200 < _;omega⟩
theorem fg.in1 {k:Nat}{A:Around}(r:fg (k+1) A):fg k A.in1 :=
 ⟨r.hd,by have:=r.dp;show A.depth+3 * k+5 < _;omega,by have:=r.un;show A.units+1+16 * k+200 < _;omega⟩
def Az {A:Around}{C:Addr}{us:List Value}{kw:List (Str×Value)}:(A.under (.builtin "type.__call__" ⟨.ref C::us,kw⟩)).depth=A.depth+1:=by
 first | rfl | simp [Around.under,Code.weight,Code.isCreation,Code.isGuard,Code.isCaller,Code.frames,Code.isFrame,guardIds]
def Ay {A:Around}{C:Addr}{us:List Value}{kw:List (Str×Value)}:(A.under (.builtin "type.__call__" ⟨.ref C::us,kw⟩)).units=A.units+1:=by
 first | rfl | simp [Around.under,Code.cUnits,Code.frames,Code.isFrame]
def fg.make {k:Nat}{A:Around}(r:fg (k+1) A)(C:Addr)(us:List Value)(kw:List (Str×Value)):fg k (A.under (.builtin "type.__call__" ⟨.ref C::us,kw⟩)) :=
 ⟨r.hd,by have:=r.dp;rw [Az];omega,by have:=r.un;rw [Ay];omega⟩
theorem fg.depth {k:Nat}{A:Around}(r:fg k A):A.depth < recursionLimit:=by have:=r.dp;omega
theorem fg.units {k:Nat}{A:Around}(r:fg k A):A.units+64 < cLine:=by have:=r.un;omega
def rM:TA:=λ_ H Q=>Q [] H
def gL (ta:TE)(tr:TA):TA:=λσ H Q=>ta σ H λx H1=>tr σ H1 λxs H2=>Q (x::xs) H2
section
variable {X:Cx}{e:Expr}{es:List Expr}{te:TE}{t:TA}{pos:Pos}
def ah:PA X [] rM:=λ_ _ _ _ H Q I h=>oW ⟨[],H,I,.nil,h⟩
def ab (ha:PE X e te)(hr:PA X es t)(hs:starEach (e::es) X.env=(false,eval e X.env)::starEach es X.env:=by rfl):PA X (e::es) (gL te t):=by
 intro pos ag s σ H Q I h;rw [hs];show wpAny _ _ (spliced ((false,eval e X.env)::backTo pos (starEach es X.env))) _ _ s;refine pY (cW (ha ag s σ H _ I h) λu s1 ⟨x,H1,I1,r1,q1⟩=>?_);exact cW (hr pos ag s1 σ H1 _ I1 q1) λus s2 ⟨xs,H2,I2,r2,q2⟩=>⟨x::xs,H2,I2,.cons r1 r2,q2⟩
def ua (t:TA):TE:=λσ H Q=>t σ H λxs H1=>xs.length<=sizeLine/\∀p,H1 p=none->Q (.ref p) (upd H1 p (.tup xs))
def PM (t:TA):TE:=λσ H Q=>t σ H λxs H1=>xs.length<=sizeLine/\∀p,H1 p=none->Q (.ref p) (upd H1 p (.lst xs))
def bR {x1}(h:PA X es t):PE X (.Tuple es x1 pos) (ua t):=by
 intro ag s σ H Q I hq;refine wpAny_Tuple_spliced (cW (h pos ag s σ H _ I hq) λus s1 ⟨xs,H1,I1,r,z,q⟩=>⟨by rw [<-r.length];exact z,?_⟩);have hf:H1 s1.heap.objs.size=none:=I1.bY.fresh (aD _);refine⟨.ref s1.heap.objs.size,upd H1 s1.heap.objs.size (.tup xs),I1.laid (t':=s1.toks) (λb u e=>bG _ e) (aD _) ?_,rfl,q _ hf⟩;exact⟨z,us,r,⟨_,cy _ rfl,rfl,_,rfl⟩⟩
def bz (h:PA X es t):PE X (.List es pos) (PM t):=by
 intro ag s σ H Q I hq;refine wpAny_List_spliced (cW (h pos ag s σ H _ I hq) λus s1 ⟨xs,H1,I1,r,z,q⟩=>⟨by rw [<-r.length];exact z,?_⟩);have hf:H1 s1.heap.objs.size=none:=I1.bY.fresh (aD _);refine⟨.ref s1.heap.objs.size,upd H1 s1.heap.objs.size (.lst xs),I1.laid (t':=s1.toks) (λb u e=>bG _ e) (aD _) ?_,rfl,q _ hf⟩;exact⟨z,us,0,r,cy _ rfl⟩
end
abbrev Sp:=List V->Hp->VK->XK->Prop
abbrev zB:=List Env->Hp->Shared->XK->Value->Shared->Prop
structure qD (P:Program)(w:World)(K:a8)(mg:Str->Option Value)(base:Heap)(A:Around)(outer:List Env)(s:Shared)(H:Hp):Prop where
 frames:A.frames=some outer
 mod:Mod K mg base
 bs:∀b o,base.get? b=some o->s.heap.get? b=some o/\H b=none
 Jb:base.objs.size<=s.heap.objs.size
 pL:s.heap.FunFrames base outer
 Lx:∀b∈DU outer,H b=none
 bY:mi P w H s.heap
 bare:AllBare s.gens
def CE (outer:List Env)(P:Program)(w:World)(H:Hp)(s:Shared)(Q:VK)(u:Value)(s':Shared):Prop :=
 ∃v H',s'.os=s.os/\AllBare s'.gens/\Un (DU outer) [] H H' s.heap s'.heap/\mi P w H' s'.heap/\RelV v u/\Q v H'
def CR (CX:zB)(outer:List Env)(P:Program)(w:World)(H:Hp)(s:Shared)(Q:VK)(E:XK)(r:Result)(s':Shared):Prop :=
 match r with
 | .ok (.ret u)=>CE outer P w H s Q u s'
 | .ok _=>False
 | .error e=>CX outer H s E e s'
structure bQ (P:Program)(w:World)(K:a8)(mg:Str->Option Value)(base:Heap)(CX:zB) (k:Nat)(f:Addr)(fd:FuncData) (ps:List Str)(sp:Sp):Prop where
 len:∀vs H Q E,sp vs H Q E->vs.length=ps.length
 run:∀(A:Around)(outer:List Env)(s:Shared)(H:Hp)(args:Args)(us:List Value)(vs:List V)(Q:VK)(E:XK),fg k A->qD P w K mg base A outer s H->BindsTo s fd args (ps.zip us)->aY vs us->sp vs H Q E ->
  codeAny (model P w) A (.call (.ref f) args) (CR CX outer P w H s Q E) s
theorem bQ.mono {P:Program}{w:World}{K:a8}{mg:Str->Option Value}{base:Heap}{CX:zB}{j k:Nat}{f:Addr}{fd:FuncData}{ps:List Str}{sp:Sp}(F:bQ P w K mg base CX j f fd ps sp)(h:j<=k) :
  bQ P w K mg base CX k f fd ps sp:=⟨F.len,λA outer s H args us vs Q E hr=>F.run A outer s H args us vs Q E (hr.mono h)⟩
def bQ.imp {P:Program}{w:World}{K:a8}{mg:Str->Option Value}{base:Heap}{CX:zB}{k:Nat}{f:Addr}{fd:FuncData}{ps:List Str}{sp YN:Sp}(F:bQ P w K mg base CX k f fd ps sp)
  (h:∀vs H Q E,YN vs H Q E->sp vs H Q E):bQ P w K mg base CX k f fd ps YN :=
 ⟨λvs H Q E q=>F.len vs H Q E (h _ _ _ _ q),λA outer s H args us vs Q E hr he hb hv hs=>F.run A outer s H args us vs Q E hr he hb hv (h _ _ _ _ hs)⟩
def qD.make {P:Program}{w:World}{K:a8}{mg:Str->Option Value}{base:Heap}{A:Around}{outer:List Env}{s:Shared}{H:Hp}(e:qD P w K mg base A outer s H)(C:Addr)(us:List Value)(kw:List (Str×Value)) :
  qD P w K mg base (A.under (.builtin "type.__call__" ⟨.ref C::us,kw⟩)) outer s H:=⟨by first | exact e.frames | (simpa [Around.under,Code.envs,Code.isFrame,pushEnvs] using e.frames),e.mod,e.bs,e.Jb,e.pL,e.Lx,e.bY,e.bare⟩
theorem qD.in1 {P:Program}{w:World}{K:a8}{mg:Str->Option Value}{base:Heap}{A:Around}{outer:List Env}{s:Shared}{H:Hp}(e:qD P w K mg base A outer s H) :
  qD P w K mg base A.in1 outer s H:=⟨e.frames,e.mod,e.bs,e.Jb,e.pL,e.Lx,e.bY,e.bare⟩
section
variable {X:Cx}{ag:List (Addr×Obj)}{σ:St}{H:Hp}{s s':Shared}
def Inv.N8 (I:Inv X ag σ H s):qD X.prog X.w X.K X.mg X.base X.A X.stack s H :=
 ⟨I.ok.frames,I.ok.mod,I.bs,dH I.ok.Jb I.sz,I.stack,I.BE,I.bY,I.bare⟩
def Inv.after {Q:VK}{u:Value}(I:Inv X ag σ H s)(h:CE X.stack X.prog X.w H s Q u s'):EP X ag σ Q u s':=by
 obtain⟨v,H',os,bare,un,bY,r,q⟩:=h;obtain⟨hh,g,d,t,Qi⟩:=s';obtain rfl:Qi=s.os:=os;exact⟨v,H',I.call (h':=hh) (g':=g) (d':=d) (t':=t) (ch:=[]) un bY bare (λb z=>absurd z (by simp)),r,q⟩
end
def KS (sp:Sp)(dvs:List V)(E:XK)(t:TA):TE:=λσ H Q=>t σ H λvs H1=>sp (vs++dvs) H1 Q E
def PK (C:Addr)(m:Str)(sp:Sp)(dvs:List V)(E:XK)(ta:TE)(t:TA):TE:=λσ H Q=>ta σ H λx H1=>∃a dx fs,x=.ref a/\H1 a=some (.ins C dx fs)/\fs.lookup m=none /\
 t σ H1 λvs H2=>sp (x::(vs++dvs)) H2 Q E
def PL (C:Addr)(sp:Sp)(dvs:List V)(E:XK)(t:TA):TE:=λσ H Q=>t σ H λvs H1=>∀x dx,H1 x=none->H1 dx=none->dx≠x ->
 sp (.ref x::(vs++dvs)) (upd (upd H1 dx (.own x)) x (.ins C dx [])) (λv H2=>v=.eU/\Q (.ref x) H2) E
def Binds (K:a8)(fd:FuncData) (ps:List Str)(ds:List Value):Prop :=
 ∀(s:Shared)(us:List Value),K.In s.heap->(us++ds).length=ps.length->BindsTo s fd ⟨us,[]⟩ (ps.zip (us++ds))
def Binds.all {K:a8}{fd:FuncData}{ps:List Str}(h:∀us:List Value,us.length=ps.length->bindArgs fd ⟨us,[]⟩=pure (ps.zip us)):Binds K fd ps []:=λs us _ hl=>by
 rw [ir] at hl ⊢;exact .of_eq (h us hl)
def Passes (CX:zB)(X:Cx)(E:XK):Prop:=∀(ag:List (Addr×Obj))(σ:St)(H:Hp)(s:Shared)(e:Value)(s':Shared),Inv X ag σ H s->CX X.stack H s E e s'->X.xe e s'
section
variable {X:Cx}{CX:zB}{k:Nat}{f C:Addr}{fd:FuncData}{ps:List Str}{sp:Sp}{dvs:List V}{ds:List Value}{E:XK}{x m:Str}{p pos apos:Pos}{e o:Expr}{es:List Expr}{ta:TE}{t:TA}
def FP {ag:List (Addr×Obj)}{σ:St}{H:Hp}{s:Shared}{Q:VK}{us:List Value}{vs:List V}(F:bQ X.prog X.w X.K X.mg X.base CX k f fd ps sp)(hr:fg k X.A)(hb:Binds X.K fd ps ds)(hd:aY dvs ds)(hx:Passes CX X E)
  (I:Inv X ag σ H s)(r:aY vs us)(h:sp (vs++dvs) H Q E):wpAny (model X.prog X.w) X.A (call (.ref f) us) (EP X ag σ Q) X.xe s:=by
 have r2:aY (vs++dvs) (us++ds):=r.append hd;have hl:(us++ds).length=ps.length:=by rw [<-r2.length];exact F.len _ _ _ _ h
 refine kN (jz (F.run X.A X.stack s H ⟨us,[]⟩ (us++ds) (vs++dvs) Q E hr I.N8 (hb s us I.wU hl) r2 h) λr s' hq=>?_);cases r with
 | error e=>exact hx ag σ H s e s' I hq
 | ok fl =>
  cases fl with
  | ret u=>exact I.after hq
  | next=>exact False.elim hq
  | brk=>exact False.elim hq
  | cont=>exact False.elim hq
def JG (F:bQ X.prog X.w X.K X.mg X.base CX k f fd ps sp)(hr:fg k X.A)(hg:Gl X x)(hm:X.mg x=some (.ref f))(hk:PySem.W.keepIn X.K (.ref f)=true)(hb:Binds X.K fd ps ds)(hd:aY dvs ds)(hx:Passes CX X E)
  (ha:PA X (e::es) t)(DL:(x == ("__debug__":Str))=false:=by decide)(he:starEach (e::es) X.env=(false,eval e X.env)::starEach es X.env:=by rfl)(uR:(backTo pos (starEach es X.env)).any (·.1)=false:=by rfl) :
  PE X (.Call (.Name x p) (e::es) [] pos) (KS sp dvs E t):=by
 intro ag s σ H Q I h;refine nj (wQ I hg hm ?_ DL);refine PySem.W.callWith_K (h₀:=X.base) I.ok.mod.QQ hk (cW (ha pos ag s σ H _ I h) λus s1 ⟨vs,H1,I1,r,q⟩=>⟨I1.wU,?_⟩) he uR;exact FP F hr hb hd hx I1 r q
def B9 {pl:Sem Bool}(he:PE X o ta)(c:EG X.K C)(hm:Meth X.K C m f)(F:bQ X.prog X.w X.K X.mg X.base CX k f fd ps sp)(hr:fg k X.A)(hb:Binds X.K fd ps ds)(hd:aY dvs ds)(hx:Passes CX X E)(ha:PA X (e::es) t)
  (mY:starEach (e::es) X.env=(false,eval e X.env)::starEach es X.env:=by rfl)(uR:(backTo pos (starEach es X.env)).any (·.1)=false:=by rfl)
  (ht:eval (.Call (.Attribute o m apos) (e::es) [] pos) X.env=(do
   let ov <-eval o X.env
   standAt apos.atName
   let (f,first) <-holding [ov] (getMethod ov m pl)
   callWith pos f first (backTo pos (starEach (e::es) X.env)) (backToKw pos (keywordEach [] X.env))):=by rfl) :
  PE X (.Call (.Attribute o m apos) (e::es) [] pos) (PK C m sp dvs E ta t):=by
 intro ag s σ H Q I h;refine PySem.W.methodCall_KW (pl:=pl) (cW (he ag s σ H _ I h) λu s1 ⟨x,H1,I1,rx,a,dx,fs,ex,ea,l,q⟩=>?_) ht;subst ex;obtain rfl:u=Value.ref a:=rx;refine sR I1 ea c hm l ?_;refine PySem.W.callWith_K (first:=[.ref a]) (h₀:=X.base) I.ok.mod.QQ hm.kp (cW (ha pos ag s1 σ H1 _ I1 q) λus s2 ⟨vs,H2,I2,r,q2⟩=>⟨I2.wU,?_⟩) mY uR;exact FP (us:=.ref a::us) (vs:=.ref a::vs) F hr hb hd hx I2 (.cons rfl r) q2
structure Mk (K:a8)(C f:Addr):Prop where
 makes:PySem.W.makesIn K C=true
 init:PySem.W.findIn K (.ref C) "__init__"=some (some (.ref f))
 fn:PySem.W.isFn K (.ref f)=true
 kp:PySem.W.keepIn K (.ref C)=true
def FO {ag:List (Addr×Obj)}{σ:St}{H:Hp}{s:Shared}{Q:VK}{us:List Value}{vs:List V}(M:Mk X.K C f)(F:bQ X.prog X.w X.K X.mg X.base CX k f fd ps sp)(hr:fg (k+1) X.A)(hb:Binds X.K fd ps ds)(hd:aY dvs ds)
  (hx:Passes CX X E)(I:Inv X ag σ H s)(r:aY vs us)
  (h:∀x dx,H x=none->H dx=none->dx≠x->sp (.ref x::(vs++dvs)) (upd (upd H dx (.own x)) x (.ins C dx [])) (λv H2=>v=.eU/\Q (.ref x) H2) E) :
  wpAny (model X.prog X.w) X.A (call (.ref C) us) (EP X ag σ Q) X.xe s:=by
 have hq:=h (s.heap.objs.size+1) s.heap.objs.size (I.bY.fresh (i6 _)) (I.bY.fresh (aD _)) (bD (j7 _));have I2:=Inv.made (C:=C) I;have r2:aY (V.ref (s.heap.objs.size+1)::(vs++dvs)) (Value.ref (s.heap.objs.size+1)::(us++ds)):=.cons rfl (r.append hd);have hl:(Value.ref (s.heap.objs.size+1)::us++ds).length=ps.length:=by
  have e:=r2.length;rw [F.len _ _ _ _ hq] at e;exact e.symm
 refine kN (G0 (f:=f) I.wU M.makes M.init (beq_iff_eq.mp M.fn) (jz (F.run _ X.stack _ _ ⟨Value.ref (s.heap.objs.size+1)::us,[]⟩ (Value.ref (s.heap.objs.size+1)::(us++ds)) _ _ E (hr.make C us [])
  (I2.N8.make C us []) (hb _ (Value.ref (s.heap.objs.size+1)::us) I2.wU hl) r2 hq) λr s' Q_=>?_))
 cases r with
 | error e=>exact hx ag σ _ _ e s' I2 Q_
 | ok fl =>
  cases fl with
  | ret u =>
   obtain⟨v,H',I3,rv,ev,q3⟩:=I2.after Q_;subst ev;exact⟨rv,⟨V.ref (s.heap.objs.size+1),H',I3,rfl,q3⟩⟩
  | next=>exact False.elim Q_
  | brk=>exact False.elim Q_
  | cont=>exact False.elim Q_
def wD (M:Mk X.K C f)(F:bQ X.prog X.w X.K X.mg X.base CX k f fd ps sp)(hr:fg (k+1) X.A)(hg:Gl X x)(hm:X.mg x=some (.ref C))(hb:Binds X.K fd ps ds)(hd:aY dvs ds)(hx:Passes CX X E)
  (ha:PA X (e::es) t)(DL:(x == ("__debug__":Str))=false:=by decide)(he:starEach (e::es) X.env=(false,eval e X.env)::starEach es X.env:=by rfl)(uR:(backTo pos (starEach es X.env)).any (·.1)=false:=by rfl) :
  PE X (.Call (.Name x p) (e::es) [] pos) (PL C sp dvs E t):=by
 intro ag s σ H Q I h;refine nj (wQ I hg hm ?_ DL);refine PySem.W.callWith_K (h₀:=X.base) I.ok.mod.QQ M.kp (cW (ha pos ag s σ H _ I h) λus s1 ⟨vs,H1,I1,r,q⟩=>⟨I1.wU,?_⟩) he uR;exact FO M F hr hb hd hx I1 r q
end
section
variable {X:Cx}{CX:zB}{k:Nat}{f C:Addr}{fd:FuncData}{ps ks:List Str}{sp:Sp}{E:XK}{x m:Str}{p pos apos aai:Pos}{e o:Expr}{es:List Expr}{kws:List Keyword}{te ta:TE}{t tk:TA}{nm:Option Str}
structure Ys (K:a8)(fd:FuncData) (ps ks:List Str)(g:List Value->List Value->List Value)(gV:List V->List V->List V):Prop where
 to:∀(s:Shared)(us ws:List Value),K.In s.heap->(g us ws).length=ps.length->BindsTo s fd ⟨us,ks.zip ws⟩ (ps.zip (g us ws))
 rel:∀{vs:List V}{us:List Value}{zs:List V}{ws:List Value},aY vs us->aY zs ws->aY (gV vs zs) (g us ws)
variable {g:List Value->List Value->List Value}{gV:List V->List V->List V}
end
structure aI (N P:List Str)(sc:Scope):Prop where
 kind:sc.kind=.function
 co:sc.isCoroutine=false
 gen:sc.isGenerator=false
 nd:N.Nodup
 pre:N.take P.length=P
 par:∀x∈P,sc.names.lookup x=some .local\/sc.names.lookup x=some .cell
 M5:∀y∈sc.names,y.2≠.free
def iS {N P:List Str}{sc:Scope}(a:sc.kind=.function)(b:sc.isCoroutine=false)(c:sc.isGenerator=false)(d:N.take P.length=P)(e:N.Nodup/\(∀x∈P,sc.names.lookup x=some .local\/sc.names.lookup x=some .cell)/\∀y∈sc.names,y.2≠.free):aI N P sc:=⟨a,b,c,e.1,d,e.2.1,e.2.2⟩
theorem u_ {kindOf:Str->Option NameKind}{x:Str}:∀{binds:List (Str×Value)}{m:Str->Option Value},(∀v,(x,v)∉binds)->bindL kindOf binds m x=m x
 | [],_,_=>rfl
 | (n,v)::r,m,h=>by
  unfold bindL;rw [u_ λw hw=>h w (cV _ hw)]
  split
  .have:x≠n:=by rintro rfl;exact h v cI
   simp [this]
  rfl
theorem vc {kindOf:Str->Option NameKind}{x:Str}:∀{binds:List (Str×Value)}{m:Str->Option Value},(∀v,(x,v)∉binds)->bindC kindOf binds m x=m x
 | [],_,_=>rfl
 | (n,v)::r,m,h=>by
  unfold bindC;rw [vc λw hw=>h w (cV _ hw)]
  split
  .rfl
  have:x≠n:=by rintro rfl;exact h v cI
  simp [this]
theorem vb {kindOf:Str->Option NameKind}{x:Str}{v:Value}:∀{P:List Str}{vs:List Value}{i:Nat}{m:Str->Option Value},P.Nodup->P[i]?=some x->vs[i]?=some v->kindOf x=some .local ->
  bindL kindOf (P.zip vs) m x=some v
 | [],_,_,_,_,h,_,_=>by simp at h
 | _::_,[],_,_,_,_,h,_=>by simp at h
 | p::P,w::vs,0,m,nd,h1,h2,hk=>by
  simp at h1 h2;subst h1;subst h2;show bindL kindOf ((p,w)::P.zip vs) m p=_;unfold bindL;rw [u_ λv hv=>(ng.mp nd).1 (List.of_mem_zip hv).1,ax hk];simp
 | p::P,w::vs,i+1,m,nd,h1,h2,hk=>by
  show bindL kindOf ((p,w)::P.zip vs) m x=_;unfold bindL;exact vb (i:=i) (ng.mp nd).2 (by simpa using h1) (by simpa using h2) hk
theorem ve {kindOf:Str->Option NameKind}{x:Str}{v:Value}:∀{P:List Str}{vs:List Value}{i:Nat}{m:Str->Option Value},P.Nodup->P[i]?=some x->vs[i]?=some v->kindOf x≠some .local ->
  bindC kindOf (P.zip vs) m x=some v
 | [],_,_,_,_,h,_,_=>by simp at h
 | _::_,[],_,_,_,_,h,_=>by simp at h
 | p::P,w::vs,0,m,nd,h1,h2,hk=>by
  simp at h1 h2;subst h1;subst h2;show bindC kindOf ((p,w)::P.zip vs) m p=_;unfold bindC;rw [vc λv hv=>(ng.mp nd).1 (List.of_mem_zip hv).1,aw hk];simp
 | p::P,w::vs,i+1,m,nd,h1,h2,hk=>by
  show bindC kindOf ((p,w)::P.zip vs) m x=_;unfold bindC;exact ve (i:=i) (ng.mp nd).2 (by simpa using h1) (by simpa using h2) hk
def start (N:List Str)(vs:List V):St:=vs.map some++List.replicate (N.length - vs.length) none
def pR (CX:zB)(P:Program)(w:World)(K:a8)(mg:Str->Option Value)(base:Heap) (N:List Str)(qual:Str)(scope:Scope)(f:Addr)(cd:Value)(A:Around)(outer:List Env)(s:Shared)(H:Hp)(E:XK):Cx where
 prog:=P
 w:=w
 K:=K
 mg:=mg
 base:=base
 A:=A.deeper (envOfC qual scope s.heap.objs.size f cd)
 N:=N
 s₀:=s
 H₀:=H
 env:=envOfC qual scope s.heap.objs.size f cd
 outer:=outer
 stack:=envOfC qual scope s.heap.objs.size f cd::outer
 ex:=[]
 calm:=true
 fn:=λ_=>true
 pn:=[]
 xe:=λe s'=>wpAny (model P w) (A.deeper (envOfC qual scope s.heap.objs.size f cd)) (leaving (envOfC qual scope s.heap.objs.size f cd) e) (λ_ MI=>CX outer H s E e MI) (λe' MI=>CX outer H s E e' MI) s'
def yW {sc:Scope}{n:Nat}{x:Str}(h:sc.names.lookup x=some .cell):∃c,(cellsFrom n sc.names []).lookup x=some c:=by
 have q:=PySem.W.cellsFrom_some sc.names n [] (.inl h);exact lW.mp q
def uP {CX:zB}{P:Program}{w:World}{K:a8}{mg:Str->Option Value}{base:Heap}{N ps:List Str}{qual:Str}{scope:Scope}{f:Addr}{cd:Value}{A:Around}{outer:List Env}{s s1:Shared}{H:Hp}{E:XK}{us:List Value}{vs:List V}
  (S:aI N ps scope)(hd:A.handled=none)(e0:qD P w K mg base A outer s H)(hl:vs.length=ps.length)(r:aY vs us)
  (x:InCallC s s.heap.objs.size (bindL (envOfC qual scope s.heap.objs.size f cd).kindOf (ps.zip us) λ_=>none) (cellsFrom (s.heap.objs.size+1) scope.names []) (bindC (envOfC qual scope s.heap.objs.size f cd).kindOf (ps.zip us) λ_=>none) s1) :
  Inv (pR CX P w K mg base N qual scope f cd A outer s H E) [] (start N vs) H s1:=by
 have uR:ps.length<=N.length:=by have:=congrArg List.length S.pre;rw [dC] at this;omega
 obtain⟨h1,tk,rfl,hk⟩:=x.done;have Qr:∀b:Addr,b∉(pR CX P w K mg base N qual scope f cd A outer s H E).ex:=λb z=>absurd (show b∈([]:List Addr) from z) (by simp);refine⟨⟨e0.mod,S.kind,rfl,rfl,aD _,λy z c h1 h2=>?_,λy hy=>?_,λy c _ h=>?_,λ_=>hd,Around.frames_deeper e0.frames,.inr ⟨rfl,rfl⟩,λb z=>absurd z (Qr b),e0.bs,e0.Jb,λb _ _=>Qr b,λb z=>absurd z (Qr b),e0.pL,e0.Lx⟩,
  rfl,e0.bare,Un.kept hk,⟨_,x.toInCall.ns,λi y v h1 h2 h3=>?_⟩,λy c h=>⟨_,x.cell y c h⟩,e0.bY.fresh (aD _),λy c h=>?_,λp hp=>absurd (show p∈([]:List (Addr×Obj)) from hp) (by simp),e0.bY.kept hk,?_⟩
 .exact name_of_addr x.apart (rB h1) (rB h2)
 .have hy:scope.names.lookup y=some .cell\/scope.names.lookup y=some .free:=hy;rcases hy with hy | hy
  .exact yW hy
  exact absurd rfl (S.M5 _ (rB hy))
 .exact i7 (x.above y c (rB h))
 .have hi:i < vs.length:=by
   unfold start at h2;by_cases hi:i < vs.length
   .exact hi
   rw [nu (by simpa using hi)] at h2;rw [List.getElem?_replicate] at h2
   split at h2 <;> cases h2
  have ha:vs[i]?=some v:=by
   unfold start at h2;rw [qb (by simpa using hi),bo] at h2;cases e:vs[i]? with
   | none=>rw [e] at h2;cases h2
   | some a=>rw [e] at h2;cases h2;rfl
  obtain⟨u,hu,rv⟩:=r.get ha;have hp:ps[i]?=some y:=by
   rw [<-S.pre,rH (by omega)];exact h1
  have Ta:ps.Nodup:=by rw [<-S.pre];exact S.nd.sublist (List.take_sublist _ _)
  refine⟨u,rv,?_⟩;rcases S.par y (bZ hp) with k | k
  .exact .inl ⟨k,vb Ta hp hu k⟩
  obtain⟨c,e⟩:=yW (n:=s.heap.objs.size+1) k;refine .inr ⟨.inl k,c,e,?_⟩;have q:=x.cell y c e;rw [ve Ta hp hu (by show scope.names.lookup y≠_;rw [k];decide)] at q;exact q
 .exact e0.bY.fresh (i7 (x.above y c (rB h)))
 unfold start;show _=N.length;rw [bp,av,List.length_replicate];omega
def HK {CX:zB}{P:Program}{w:World}{K:a8}{mg:Str->Option Value}{base:Heap}{k:Nat}{f:Addr}{name qual:Str}{params:Arguments}{body:List Stmt}{scope:Scope}{dV kV doc pm eJ ct oc:Value}{an od:Option Addr}
  {wG:Array (Option Value)}{N ps:List Str}{sp:Sp}(lk:K.lookup f=some ⟨oc,od,.func (PySem.W.fnOf name qual params body scope dV kV doc pm an eJ ct),wG⟩)(wY:PySem.W.codeIn K eJ qual=true)(S:aI N ps scope)
  (len:∀vs H Q E,sp vs H Q E->vs.length=ps.length)
  (jr:∀(A:Around)(outer:List Env)(s:Shared)(H:Hp)(vs:List V)(Q:VK)(E:XK),fg k (A.deeper (envOfC qual scope s.heap.objs.size f eJ))->sp vs H Q E ->
   ∃t,Bj (pR CX P w K mg base N qual scope f eJ A outer s H E) body t/\t { nx:=λ_ H'=>Q .eU H',rt:=Q } (start N vs) H) :
  bQ P w K mg base CX (k+1) f (PySem.W.fnOf name qual params body scope dV kV doc pm an eJ ct) ps sp:=by
 refine⟨len,λA outer s H args us vs Q E hr e0 hb r zr=>?_⟩;have hl:=len _ _ _ _ zr;have KX:K.In s.heap:=e0.mod.QQ.keeps λb o e=>(e0.bs b o e).1;have lim:s.heap.NoLimit:=e0.mod.nolimit.keeps λb o e=>(e0.bs b o e).1;have jo:∀y∈ps.zip us,scope.names.lookup y.1=some .local\/(scope.names.lookup y.1=some .cell/\((cellsFrom (s.heap.objs.size+1) scope.names []).lookup y.1).isSome=true):=λ⟨n,v⟩ hy=>by
  rcases S.par n (List.of_mem_zip hy).1 with q | q
  .exact .inl q
  exact .inr ⟨q,PySem.W.cellsFrom_some _ _ _ (.inl q)⟩
 refine codeAny_call_function hr.depth (KX _ _ lk) rfl S.co S.gen rfl (PySem.W.codeRec_of KX wY) (hb _ _ _ _ ?_);refine wpAny_newFunctionEnv_cells S.kind jo λenv he s1 x=>?_;subst he;refine⟨lim.keeps x.toInCall.keep,codeAny_func ?_⟩;obtain⟨t,ht,hq⟩:=jr A outer s H vs Q E (hr.deeper _) zr;have I:Inv (pR CX P w K mg base N qual scope f eJ A outer s H E) [] (start N vs) H s1:=uP S hr.hd e0 hl r x;refine dB (ht [] s1 (start N vs) H _ I hq) (λfl s' hs=>?_) λe s' hs=>hs;have fin:∀{σ':St}{H':Hp}{v:V}{u:Value},Inv (pR CX P w K mg base N qual scope f eJ A outer s H E) [] σ' H' s'->RelV v u->Q v H'->CE outer P w H s Q u s' :=
  λ{σ' H' v u} J rv q=>⟨v,H',J.os,J.bare,J.base,J.bY,rv,q⟩
 cases fl with
 | ret u =>
  obtain⟨v,σ',H',J,rv,q⟩:=hs;exact fin J rv q
 | next =>
  obtain⟨σ',H',J,q⟩:=hs;exact fin (v:=V.eU) (u:=Value.none) J rfl q
 | brk =>
  obtain⟨_,_,_,q⟩:=hs;exact False.elim q
 | cont =>
  obtain⟨_,_,_,q⟩:=hs;exact False.elim q
section
variable {X:Cx}{x:Str}{p pos:Pos}{e:Expr}{es:List Expr}{t:TA}{id T:String}{r:List V->Hp->VK->Prop}
def YJ (r:List V->Hp->VK->Prop)(t:TA):TE:=λσ H Q=>t σ H λvs H1=>r vs H1 Q
def aF (hc:ig X (.builtin id) r)(hg:Gl X x)(hm:X.mg x=none)(hv:bootBuiltins x=some (.builtin id))(ha:PA X (e::es) t)(hn:x ≠ "__name__" := by decide)(DL:(x == ("__debug__":Str))=false:=by decide)
  (he:starEach (e::es) X.env=(false,eval e X.env)::starEach es X.env:=by rfl)(uR:(backTo pos (starEach es X.env)).any (·.1)=false:=by rfl):PE X (.Call (.Name x p) (e::es) [] pos) (YJ r t):=by
 intro ag s σ H Q I h;refine nj (iP I hg hm hv ?_ hn DL);exact PyProof.Rows.callWith_builtin1 (cW (ha pos ag s σ H _ I h) λus s1 ⟨vs,H1,I1,r1,q1⟩=>hc ag s1 σ H1 vs us Q I1 r1 q1) he uR
def aV (hc:ig X (.type T) r)(hg:Gl X x)(hm:X.mg x=none)(hv:bootBuiltins x=some (.type T))(ha:PA X (e::es) t)(hn:x ≠ "__name__" := by decide)(DL:(x == ("__debug__":Str))=false:=by decide)
  (he:starEach (e::es) X.env=(false,eval e X.env)::starEach es X.env:=by rfl)(uR:(backTo pos (starEach es X.env)).any (·.1)=false:=by rfl):PE X (.Call (.Name x p) (e::es) [] pos) (YJ r t):=by
 intro ag s σ H Q I h;refine nj (iP I hg hm hv ?_ hn DL);exact xA (cW (ha pos ag s σ H _ I h) λus s1 ⟨vs,H1,I1,r1,q1⟩=>hc ag s1 σ H1 vs us Q I1 r1 q1) he uR
end
end L2
namespace HT
open PySem PyProof.Rows
section
open PySem.SeqAt
open PySem.AutoSeq1 (wpAny_loadPart')
open PySem.MeetsSeq PySem.MeetsSeq2 PySem.MeetsSeq3
end
section
variable {prog:Program}{w:World}{A:Around}{E:Value->Shared->Prop}{s:Shared}
def Kx {t b:Addr}{vs ws:List Value}{Q:Value->Shared->Prop}(ht:IsTup s.heap t vs.toArray)(hb:IsTup s.heap b ws.toArray)(hv:vs≠[])
  (h1:ws=[]->Q (.ref t) s)(h2:ws≠[]->Q (.ref s.heap.objs.size) { s with heap:=s.heap.push { cls:=.type "tuple",data:=.seq (vs++ws).toArray } })
  (hsz:vs.length+ws.length<=sizeLine):wpAny (model prog w) A (binaryOp .Add (.ref t) (.ref b)) Q E s:=by
 obtain⟨⟨cls,dd,data,sl⟩,ho,hc,n,hd⟩:=id ht;obtain⟨⟨XZ,O_,data2,SR⟩,AL,NJ,n2,hd2⟩:=id hb;simp only at hc hd NJ hd2;subst hc hd NJ hd2;have e:vs.toArray++ws.toArray=(vs++ws).toArray:=by simp
 by_cases hw:ws=[]
 .exact concat_meets ⟨_,ho,rfl⟩ ⟨_,AL,rfl⟩ noFill_tuple_add seq_tuple_add zC zD (zF _ _)
   (tuple_addW1 t b vs.toArray ws.toArray n n2 dd O_ sl SR (by simpa using hv) (by simp [hw])) ⟨ho,AL,h1 hw⟩
 refine concat_meets ⟨_,ho,rfl⟩ ⟨_,AL,rfl⟩ noFill_tuple_add seq_tuple_add zC zD (zF _ _)
  (tuple_addW2 t b vs.toArray ws.toArray n n2 dd O_ sl SR (by simpa using hv) (by simpa using hw) (by rw [bN,bN];exact hsz)) ⟨ho,AL,?_⟩
 rw [e];exact h2 hw
def fu (n d:Nat):Option Int->Nat
 | none=>d
 | some v=>if v < 0 then (v+(n:Int)).toNat else min v.toNat n
def jk (n d:Nat):fu n d none=d:=rfl
def qH (n d k:Nat):fu n d (some (k:Int))=min k n:=by
 show (if (k:Int) < 0 then ((k:Int)+(n:Int)).toNat else min (k:Int).toNat n)=min k n;rw [aw (by omega),gI]
def MA (n d:Nat)(hd:d<=n)(o:Option Int):fu n d o<=n:=by
 cases o with
 | none=>exact hd
 | some v =>
  show (if v < 0 then (v+(n:Int)).toNat else min v.toNat n)<=n;by_cases hv:v < 0
  .rw [ax hv];omega
  rw [aw hv];exact Nat.min_le_right _ _
def Cv (v:Int) (n d:Nat):(if v < 0 then max (v+(n:Int)) 0 else min v (n:Int))=((fu n d (some v):Nat):Int):=by
 show (if v < 0 then max (v+(n:Int)) 0 else min v (n:Int))=(((if v < 0 then (v+(n:Int)).toNat else min v.toNat n):Nat):Int);by_cases hv:v < 0
 .simp only [ax hv];omega
 simp only [aw hv];omega
def Bg (lo hi:Option Int) (n:Nat):Builtin.Slice.sliceAdjust lo hi 1 (n:Int)=(((fu n 0 lo:Nat):Int),((fu n n hi:Nat):Int)):=by
 have h1:¬((1:Int) < 0):=by omega
 unfold Builtin.Slice.sliceAdjust;simp only [h1,if_false];refine Prod.ext ?_ ?_
 .cases lo with
  | none=>rfl
  | some v=>exact Cv v n 0
 cases hi with
 | none=>rfl
 | some v=>exact Cv v n n
def Ag (i j:Nat):Builtin.Slice.slicePlaces (i:Int) (j:Int) 1=j - i:=by
 unfold Builtin.Slice.slicePlaces;have h1:(1:Int) > 0:=by omega
 simp only [h1,if_true,Int.ediv_one]
 split <;> omega
def rS {v:Value}{o:Option Int}{Q:Option Int->Shared->Prop}(p:IsPart v o)(h:Q o s):wpAny (model prog w) A (Builtin.Slice.slicePartIndex v) Q E s:=by
 cases p with
 | none=>exact slicePart_none h
 | int i t=>exact slicePart_int h
def ji {sl:Addr}{vl vu:Value}{lo hi:Option Int}{n:Nat}{Q:Int×Int×Nat->Shared->Prop}(hs:s.heap.IsSliceOf sl vl vu .none)(pl:IsPart vl lo)(pu:IsPart vu hi)
  (h:Q (((fu n 0 lo:Nat):Int),1,fu n n hi - fu n 0 lo) s):wpAny (model prog w) A (Builtin.Slice.sliceApplied (.ref sl) (pure (n:Int))) Q E s:=by
 obtain⟨os,DI,Hu,IL⟩:=id hs;unfold Builtin.Slice.sliceApplied Builtin.Slice.sliceFields;refine aq (aq (iq DI IL (x:=vl) rfl (aq (iq DI IL (x:=vu) rfl (aq (iq DI IL (x:=.none) rfl (aH ?_)))))));refine aq (slicePart_none ?_);show wpAny _ _ (if ((1:Int) == 0)=true then _ else _) _ _ s;rw [aw (by decide)];refine aq (rS pl (aq (rS pu (aq (aH ?_)))));show wpAny _ _ (match Builtin.Slice.sliceAdjust lo hi 1 (n:Int) with | (lo,hi)=>pure (lo,(1:Int),Builtin.Slice.slicePlaces lo hi 1)) _ _ s
 rw [Bg lo hi n];show wpAny _ _ (pure (((fu n 0 lo:Nat):Int),(1:Int),Builtin.Slice.slicePlaces ((fu n 0 lo:Nat):Int) ((fu n n hi:Nat):Int) 1)) _ _ s;rw [Ag];exact aH h
def F7 (xs:Array Value) (i k:Nat):((List.range k).filterMap λ(m:Nat)=>xs[((i:Int)+(m:Int) * 1).toNat]?).toArray=((xs.toList.drop i).take k).toArray:=by
 have e:(λ(m:Nat)=>xs[((i:Int)+(m:Int) * 1).toNat]?)=λm=>xs[i+m]?:=by
  funext m
  have:((i:Int)+(m:Int) * 1).toNat=i+m:=by omega
  rw [this]
 rw [e];have:=pick_run xs i k;rw [List.filterMap_map] at this;have e2:((λx=>xs[x]?) ∘ λx=>i+x)=λm=>xs[i+m]?:=rfl;rw [e2] at this;rw [this]
def ot {t sl:Addr}{items:Array Value}{vl vu:Value}{lo hi:Option Int}{Q:Value->Shared->Prop}(ht:IsTup s.heap t items)(hs:s.heap.IsSliceOf sl vl vu .none)(pl:IsPart vl lo)(pu:IsPart vu hi)
  (hw:¬(fu items.size 0 lo=0/\fu items.size items.size hi=items.size))
  (h:Q (.ref s.heap.objs.size) { s with heap:=s.heap.push { cls:=.type "tuple",data:=.seq ((items.toList.drop (fu items.size 0 lo)).take (fu items.size items.size hi - fu items.size 0 lo)).toArray } })
  (hsz:items.size<=sizeLine):wpAny (model prog w) A (getItem (.ref t) (.ref sl)) Q E s:=by
 have og:sizeOk (.seq ((items.toList.drop (fu items.size 0 lo)).take (fu items.size items.size hi - fu items.size 0 lo)).toArray):=by
  show ((items.toList.drop (fu items.size 0 lo)).take (fu items.size items.size hi - fu items.size 0 lo)).toArray.size<=sizeLine;rw [bN,dC,mv,iF];omega
 have hj:fu items.size items.size hi<=items.size:=MA _ _ (aD _) hi;obtain⟨os,DI,Hu,IL⟩:=id hs;have RE:s.TypeIs (.ref sl) "slice" := ⟨os,DI,Hu⟩;unfold getItem
 try with_reducible refine iV ?_
 first | refine aq (aH ?_) | skip
 refine aq (wpAny_sequenceKey ht.typeIs (by decide) ?_);refine aq (nq (name:=Str.ofString "__getitem__") ht.typeIs nv
  (j6 nv ht.typeIs entry_tuple_getitem ?_ (args_tuple_getitem _ _)))
 show wpAny _ _ (Builtin.Tuple.tupleItemsOf (.ref t) >>= _) _ _ s;refine aq (tupleItemsOf_ ht ?_);refine aq (jX RE ?_);rw [ax (by decide)];refine aq (ji hs pl pu ?_);have hno:¬((((fu items.size 0 lo:Nat):Int) == 0 && (1:Int) == 1 && (fu items.size items.size hi - fu items.size 0 lo) == items.size)=true):=by
  intro q;rw [kR,kR] at q;have q1:((fu items.size 0 lo:Nat):Int)=0:=eq_of_beq q.1.1;have q2:fu items.size items.size hi - fu items.size 0 lo=items.size:=eq_of_beq q.2;exact hw ⟨by omega,by omega⟩
 show wpAny _ _ (if (((fu items.size 0 lo:Nat):Int) == 0 && (1:Int) == 1 && (fu items.size items.size hi - fu items.size 0 lo) == items.size)=true then _ else _) _ _ s;rw [aw hno,F7]
 first
  | exact aq (m:=Builtin.Tuple.tupleExact _) (gH (aH ⟨_,rfl,aH h⟩) og)
  | exact aq (m:=Builtin.Tuple.tupleExact _) (gH (aq (aH (aH ⟨_,rfl,aH h⟩))) og)
  | exact aq (aq (m:=Builtin.Tuple.tupleExact _) (gH (aH (aH ⟨_,rfl,aH h⟩)) og))
  | exact aq (aq (m:=Builtin.Tuple.tupleExact _) (gH (aH ⟨_,rfl,aH h⟩) og))
end
end HT
namespace L2
open PySem PySem.Spec PyProof.Rows
abbrev TO:=St->Hp->(Option Int->Hp->Prop)->Prop
def PO (X:Cx)(e:Option Expr)(t:TO):Prop :=
 ∀(ag:List (Addr×Obj))(s:Shared)(σ:St)(H:Hp)(Q:Option Int->Hp->Prop),Inv X ag σ H s->t σ H Q ->
  wpAny (model X.prog X.w) X.A (evalPart e X.env) (λu s'=>∃o H',Inv X ag σ H' s'/\IsPart u o/\Q o H') X.xe s
def Jm:TO:=λ_ H Q=>Q none H
def PB (t:TE):TO:=λσ H Q=>t σ H λx H1=>∃i,x=.int i/\Q (some i) H1
def intsAre_of {ns:List Int}:∀{us:List Value},aY (ns.map V.int) us->IntsAre us ns:=by
 induction ns with
 | nil=>intro us r;rw [ml] at r;cases r;exact .nil
 | cons n ns ih =>
  intro us r;rw [cN] at r;cases r with
  | cons r1 r2 =>
   obtain⟨t,e⟩:=r1;subst e;exact .cons n t (ih r2)
section
variable {X:Cx}{e:Expr}{te:TE}{lo hi:Option Expr}{tl th:TO}{pos p2:Pos}
def g_:PO X none Jm:=by
 intro ag s σ H Q I h;rw [evalPart_none];exact aH ⟨none,H,I,.none,h⟩
def e_ (h:PE X e te):PO X (some e) (PB te):=by
 intro ag s σ H Q I hw;rw [evalPart_some];refine cW (h ag s σ H _ I hw) λu s1 ⟨x,H1,I1,r1,q1⟩=>?_;obtain⟨i,rfl,q⟩:=q1;obtain⟨t,rfl⟩:=r1;exact⟨some i,H1,I1,.int i t,q⟩
def LV (X:Cx)(r:V->Option Int->Option Int->Hp->VK->Prop):Prop :=
 ∀(ag:List (Addr×Obj))(s:Shared)(σ:St)(H:Hp)(x:V)(v vl vu:Value)(lo hi:Option Int)(sl:Addr)(Q:VK),Inv X ag σ H s->RelV x v->s.heap.IsSliceOf sl vl vu .none->IsPart vl lo->IsPart vu hi->r x lo hi H Q ->
  ∃T id,typeLookup (.type T) "__getitem__"=pure (some (.builtin id))/\s.TypeIs v T/\wpAny (model X.prog X.w) X.A (getItem v (.ref sl)) (EP X ag σ Q) X.xe s
def LV.or {r r':V->Option Int->Option Int->Hp->VK->Prop}(h:LV X r)(h':LV X r'):LV X (λx lo hi H Q=>r x lo hi H Q\/r' x lo hi H Q):=by
 intro ag s σ H x v vl vu lo hi sl Q I rx hs pl pu q;rcases q with q | q
 .exact h ag s σ H x v vl vu lo hi sl Q I rx hs pl pu q
 exact h' ag s σ H x v vl vu lo hi sl Q I rx hs pl pu q
def tSl (r:V->Option Int->Option Int->Hp->VK->Prop)(te:TE)(tl th:TO):TE:=λσ H Q=>te σ H λx H1=>tl σ H1 λl H2=>th σ H2 λu H3=>r x l u H3 Q
def fI {r:V->Option Int->Option Int->Hp->VK->Prop}(hr:LV X r)(he:PE X e te)(hl:PO X lo tl)(hu:PO X hi th):PE X (.Subscript e (.Slice lo hi none p2) pos) (tSl r te tl th):=by
 intro ag s σ H Q I h;refine Subscript_ (cW (he ag s σ H _ I h) λv s1 ⟨x,H1,I1,r1,q1⟩=>?_);refine wpAny_Slice (cW (hl ag s1 σ H1 _ I1 q1) λvl s2 ⟨l,H2,I2,pl,q2⟩=>cW (hu ag s2 σ H2 _ I2 q2) λvu s3 ⟨u,H3,I3,pu,q3⟩=>?_);rw [evalPart_none];refine aH ?_;have I4:Inv X ag σ H3 { s3 with heap:=s3.heap.push { cls:=.type "slice",data:=.fields #[vl,vu,.none] } }:=I3.kept (t':=s3.toks) λb ob q=>bG _ q;obtain⟨T,id,hT,ht,hg⟩:=hr ag { s3 with heap:=s3.heap.push { cls:=.type "slice",data:=.fields #[vl,vu,.none] } } σ H3 x v vl vu l u s3.heap.objs.size Q I4 r1 (Heap.IsSliceOf.new ..) pl pu q3;show wpAny (model X.prog X.w) X.A (subscriptTail e (.Slice lo hi none p2) v (.ref s3.heap.objs.size)) (EP X ag σ Q) X.xe { s3 with heap:=s3.heap.push { cls:=.type "slice",data:=.fields #[vl,vu,.none] } };exact tail_any (ops:=[.ref s3.heap.objs.size,v]) ht hT hg (by with_unfolding_all rfl)
def gp (xs:List V)(lo hi:Option Int):List V:=(xs.drop (HT.fu xs.length 0 lo)).take (HT.fu xs.length xs.length hi - HT.fu xs.length 0 lo)
def qj (xs:List V)(lo hi:Option Int):(gp xs lo hi).length<=xs.length:=by
 unfold gp;rw [dC,mv];omega
def Vi (K:a8):V->Option Int->Option Int->Hp->VK->Prop:=λx lo hi H Q=>∃a xs,x=.ref a/\aR K H a xs /\
 ¬(HT.fu xs.length 0 lo=0/\HT.fu xs.length xs.length hi=xs.length)/\∀p,H p=none->Q (.ref p) (upd H p (.tup (gp xs lo hi)))
def Ms:LV X (Vi X.K):=by
 intro ag s σ H x v vl vu lo hi sl Q I rx hs pl pu h;obtain⟨a,xs,rfl,hx,hw,q⟩:=h;cases rx;obtain⟨aN,r,ht,hz⟩:=I.tuple hx;have br:aN.toArray.size=xs.length:=by rw [bN];exact r.length.symm
 refine⟨"tuple",_,nv.lookup,ht.typeIs,?_⟩;refine HT.ot ht hs pl pu (by rw [br];exact hw) ?_ (by rw [br];exact hz);rw [br];refine⟨.ref s.heap.objs.size,_,I.laid (t':=s.toks) (o:=.tup (gp xs lo hi)) (λb ob q=>bG _ q) (aD _) ?_,rfl,q _ (I.bY.fresh (aD _))⟩;exact⟨dH (qj xs lo hi) hz,_,(r.drop (HT.fu xs.length 0 lo)).take (HT.fu xs.length xs.length hi - HT.fu xs.length 0 lo),IsTup.new _ _⟩
def Qd (K:a8):R2:=λx y H Q=>∃a b xs ys,x=.ref a/\y=.ref b/\aR K H a xs/\aR K H b ys/\xs≠[]/\xs.length+ys.length<=sizeLine /\
 (ys=[]->Q (.ref a) H)/\(ys≠[]->∀p,H p=none->Q (.ref p) (upd H p (.tup (xs++ys))))
def aY.qJ {xs:List V}{us:List Value}(r:aY xs us):us=[]↔xs=[]:=by
 cases r with
 | nil=>simp
 | cons _ _=>simp
def JI:kx X (binaryOp .Add) (Qd X.K):=by
 intro ag s σ H x y v u Q I rx ry h;obtain⟨a,b,xs,ys,rfl,rfl,ha,hb,hx,hz,q1,q2⟩:=h;cases rx;cases ry;obtain⟨aN,r1,p1,_⟩:=I.tuple ha;obtain⟨d6,r2,p2,_⟩:=I.tuple hb;refine HT.Kx p1 p2 (λz=>hx (r1.qJ.mp z)) (λz=>⟨.ref a,H,I,rfl,q1 (r2.qJ.mp z)⟩) (λz=>?_) (by rw [<-r1.length,<-r2.length];exact hz);refine⟨.ref s.heap.objs.size,_,I.laid (t':=s.toks) (o:=.tup (xs++ys)) (λb ob q=>bG _ q) (aD _) ?_,rfl,q2 (λw=>z (r2.qJ.mpr w)) _ (I.bY.fresh (aD _))⟩;exact⟨by rw [bp];exact hz,_,r1.append r2,IsTup.new _ _⟩
end
def Ll (n:Nat) (i:Int):Option Nat:=if 0<=i then (if i < n then some i.toNat else none) else if -(n:Int)<=i then some (i+n).toNat else none
def lQ {α:Type}(xs:List α) (i:Int):Option α:=(Ll xs.length i).bind λj=>xs[j]?
def J1 {n:Nat}{i:Int}{j:Nat}(h:Ll n i=some j):seqIndex? i n=some j/\j < n/\-(n:Int)<=i/\i < n:=by
 unfold Ll at h;by_cases h0:0<=i
 .rw [ax h0] at h;by_cases h1:i < n
  .rw [ax h1] at h;have e:i.toNat=j:=iu h;exact⟨by rw [seqIndex_of h0 h1,e],by omega,by omega,h1⟩
  rw [aw h1] at h;cases h
 rw [aw h0] at h;by_cases h1:-(n:Int)<=i
 .rw [ax h1] at h;have e:(i+n).toNat=j:=iu h;exact⟨by rw [seqIndex_neg (by omega) h1,e],by omega,h1,by omega⟩
 rw [aw h1] at h;cases h
def Cz {α:Type}{xs:List α}{i:Int}{v:α}(h:lQ xs i=some v):∃j,seqIndex? i xs.length=some j/\xs[j]?=some v/\j < xs.length/\-(xs.length:Int)<=i/\i < xs.length:=by
 unfold lQ at h;cases e:Ll xs.length i with
 | none=>rw [e] at h;cases h
 | some j =>
  rw [e] at h;obtain⟨h1,h2,h3,h4⟩:=J1 e;exact⟨j,h1,h,h2,h3,h4⟩
def b_ {α:Type}{xs:List α}{j:Nat}{v:α}(h:xs[j]?=some v):lQ xs (j:Int)=some v:=by
 have hj:j < xs.length:=(bj.mp h).1;have e:Ll xs.length (j:Int)=some j:=by
  unfold Ll;rw [ax (by omega),ax (by omega)];simp
 unfold lQ;rw [e];exact h
def Ie {α:Type}(xs:List α)(v:α):lQ (xs++[v]) (-1)=some v:=by
 have hl:(xs++[v]).length=xs.length+1:=by simp
 have e:Ll (xs++[v]).length (-1)=some xs.length:=by
  unfold Ll;rw [hl,aw (by decide),ax (by omega)]
  congr 1
  omega
 unfold lQ;rw [e];show (xs++[v])[xs.length]?=some v;simp
def KG (b:Expr):Prop:=∀o i,subscripted b false o i=operate [o,i] (getItem o i)
def KJ (X:Cx)(r:R2):Prop :=
 ∀(value slice:Expr)(ag:List (Addr×Obj))(s:Shared)(σ:St)(H:Hp)(x y:V)(v u:Value)(Q:VK),Inv X ag σ H s->RelV x v->RelV y u->r x y H Q ->
  subscripted slice false v u=operate [v,u] (getItem v u)->wpAny (model X.prog X.w) X.A (subscriptTail value slice v u) (EP X ag σ Q) X.xe s
def Pg (X:Cx)(id:String)(r:V->List V->Hp->VK->Prop):Prop :=
 ∀(ag:List (Addr×Obj))(s:Shared)(σ:St)(H:Hp)(x:V)(xs:List V)(v:Value)(us:List Value)(Q:VK),Inv X ag σ H s->RelV x v->aY xs us->r x xs H Q ->
  wpAny (model X.prog X.w) X.A (call (.builtin id) (v::us)) (EP X ag σ Q) X.xe s
section
variable {X:Cx}{a b:Expr}{ta tb:TE}{pos:Pos}
def KJ.or {r r':R2}(h:KJ X r)(h':KJ X r'):KJ X (λx y H Q=>r x y H Q\/r' x y H Q):=by
 intro value slice ag s σ H x y v u Q I rx ry q hs;rcases q with q | q
 .exact h value slice ag s σ H x y v u Q I rx ry q hs
 exact h' value slice ag s σ H x y v u Q I rx ry q hs
def Pg.or {id:String}{r r':V->List V->Hp->VK->Prop}(h:Pg X id r)(h':Pg X id r'):Pg X id (λx xs H Q=>r x xs H Q\/r' x xs H Q):=by
 intro ag s σ H x xs v us Q I rx rs q;rcases q with q | q
 .exact h ag s σ H x xs v us Q I rx rs q
 exact h' ag s σ H x xs v us Q I rx rs q
def aP {r:R2}(hr:KJ X r)(ha:PE X a ta)(hb:PE X b tb)(hs:KG b):PE X (.Subscript a b pos) (SJ r ta tb):=by
 intro ag s σ H Q I h;exact Subscript_ (Ov ha hb I h λv u s2 x y H2 I2 rx ry q=>hr a b ag s2 σ H2 x y v u Q I2 rx ry q (hs _ _))
def Qb (K:a8):R2:=λx y H Q=>∃p xs i v,x=.ref p/\y=.int i/\aG K H p xs/\lQ xs i=some v/\Q v H
def Qa (K:a8):R2:=λx y H Q=>∃p xs i v,x=.ref p/\y=.int i/\aR K H p xs/\lQ xs i=some v/\Q v H
def bS:KJ X (Qb X.K):=by
 intro value slice ag s σ H x y v u Q I rx ry h hs;obtain⟨p,xs,i,z,rfl,rfl,hq,he,q⟩:=h;cases rx;obtain⟨t,rfl⟩:=ry;obtain⟨aN,r,pl,hz⟩:=I.list hq;obtain⟨j,h1,h2,h3,h4,h5⟩:=Cz he;obtain⟨w,ew,Ab⟩:=r.get h2;have hl:=r.length;have hn:=wO;have fin:EP X ag σ Q w s:=⟨z,H,I,Ab,q⟩;by_cases h0:0<=i
 .have hj:i.toNat=j:=by
   rw [seqIndex_of h0 h5] at h1;exact iu h1
  exact item_listR pl.isList h0 (by omega) (by rw [hj];simpa using ew) fin hs
 have hj:(i+(aN.toArray.size:Int)).toNat=j:=by
  rw [seqIndex_neg (by omega) h4] at h1;rw [bN,<-hl];exact iu h1
 exact subscriptTail_builtinR (x:=w) pl.isList.typeIs slot_list_getitem.lookup
  (wpAny_getItem_list_neg (Q:=λr s'=>r=w/\EP X ag σ Q r s') pl.isList (by omega) (by rw [bN] <;> omega) (by omega) (by rw [hj];simpa using ew) ⟨rfl,fin⟩) hs
def bq:KJ X (Qa X.K):=by
 intro value slice ag s σ H x y v u Q I rx ry h hs;obtain⟨p,xs,i,z,rfl,rfl,hq,he,q⟩:=h;cases rx;obtain⟨t,rfl⟩:=ry;obtain⟨aN,r,pl,hz⟩:=I.tuple hq;obtain⟨j,h1,h2,h3,h4,h5⟩:=Cz he;obtain⟨w,ew,Ab⟩:=r.get h2;have hl:=r.length;have hn:=wO;have fin:EP X ag σ Q w s:=⟨z,H,I,Ab,q⟩;exact subscriptTail_builtinR (x:=w) pl.typeIs slot_tuple_getitem.lookup
  (getItem_tuple (j:=j) (Q:=λr s'=>r=w/\EP X ag σ Q r s') pl (by omega) (by omega) (by rw [bN,<-hl];exact h1) (by simpa using ew) ⟨rfl,fin⟩) hs
theorem Inv.lst {ag:List (Addr×Obj)}{σ:St}{H:Hp}{s:Shared}{p:Addr}{xs:List V}(I:Inv X ag σ H s)(h:H p=some (.lst xs)) :
  ∃(aN:List Value) (n:Nat),aY xs aN/\s.heap.get? p=some { cls:=.type "list",data:=.seq aN.toArray n }/\xs.length<=sizeLine:=by
 obtain⟨z,aN,n,r,e⟩:=I.bY p _ h;exact⟨aN,n,r,e,z⟩
def v3 (lo hi:Option Int) (n:Nat):(sliceBounds lo hi none n).1=((HT.fu n 0 lo:Nat):Int)/\(sliceBounds lo hi none n).2.1=((HT.fu n n hi:Nat):Int)/\(sliceBounds lo hi none n).2.2=1:=by
 refine⟨?_,?_,rfl⟩
 .cases lo with
  | none=>simp [sliceBounds,HT.fu]
  | some i =>
   simp only [sliceBounds,HT.fu,Option.getD_none,show (1:Int) > 0 by decide,if_true];by_cases h:i < 0
   .simp only [h,if_true] <;> omega
   simp only [h,if_false] <;> omega
 cases hi with
 | none=>simp [sliceBounds,HT.fu]
 | some i =>
  simp only [sliceBounds,HT.fu,Option.getD_none,show (1:Int) > 0 by decide,if_true];by_cases h:i < 0
  .simp only [h,if_true] <;> omega
  simp only [h,if_false] <;> omega
def uc (aN:List Value)(lo hi:Option Int):slicePick aN.toArray lo hi none=((aN.drop (HT.fu aN.length 0 lo)).take (HT.fu aN.length aN.length hi - HT.fu aN.length 0 lo)).toArray:=by
 obtain⟨h1,h2,h3⟩:=v3 lo hi aN.toArray.size;unfold slicePick;rw [h1,h2,h3];simp only [sliceRange_one,pick_run,bN] <;> rfl
def Vj (K:a8):V->Option Int->Option Int->Hp->VK->Prop:=λx lo hi H Q=>∃a xs,x=.ref a/\aG K H a xs/\∀p,H p=none->Q (.ref p) (upd H p (.lst (gp xs lo hi)))
def jG:LV X (Vj X.K):=by
 intro ag s σ H x v vl vu lo hi sl Q I rx hs pl pu h;obtain⟨a,xs,rfl,hx,q⟩:=h;cases rx;obtain⟨aN,r,ht,hz⟩:=I.list hx;have br:=r.length;refine⟨"list",_,slot_list_getitem.lookup,ht.isList.typeIs,?_⟩;refine wpAny_getItem_list_slice ht.isList hs pl pu .none (by simp) ?_ (by rw [bN] <;> omega)
 rw [uc,<-br];refine⟨.ref s.heap.objs.size,_,I.laid (t':=s.toks) (o:=.lst (gp xs lo hi)) (λb ob q=>bG _ q) (aD _) ?_,rfl,q _ (I.bY.fresh (aD _))⟩;exact⟨dH (qj xs lo hi) hz,_,0,(r.drop (HT.fu xs.length 0 lo)).take (HT.fu xs.length xs.length hi - HT.fu xs.length 0 lo),cy _ rfl⟩
def gY:V->Bool
 | .eU=>true
 | .bl _=>true
 | .int _=>true
 | .str _=>true
 | _=>false
def uX:V->V->Bool
 | .eU,.eU=>true
 | .bl a,.bl b=>a == b
 | .bl a,.int b=>(if a then 1 else 0) == b
 | .int a,.bl b=>a == (if b then 1 else 0)
 | .int a,.int b=>a == b
 | .str a,.str b=>a == b
 | _,_=>false
def A4 {A:Around}{s:Shared}{y x:V}{u v:Value}(ry:RelV y u)(rx:RelV x v)(fy:gY y=true)(fx:gY x=true):SeqAt.EqAt A s u v (uX y x):=by
 cases y with
 | eU =>
  cases ry;cases x with
  | eU=>cases rx;exact SeqAt.EqAt.same _
  | bl b=>cases rx;exact SeqAt.EqAt.none_bool b
  | int b=>obtain⟨t,rfl⟩:=rx;exact SeqAt.EqAt.none_int b t
  | str b=>obtain⟨t,rfl⟩:=rx;exact SeqAt.EqAt.none_str b t
  | _=>exact absurd (show false=true from fx) cZ
 | bl a =>
  cases ry;cases x with
  | eU=>cases rx;exact SeqAt.EqAt.bool_none a
  | bl b=>cases rx;exact SeqAt.EqAt.bool_bool a b
  | int b=>obtain⟨t,rfl⟩:=rx;exact SeqAt.EqAt.bool_int a b t
  | str b=>obtain⟨t,rfl⟩:=rx;exact SeqAt.EqAt.bool_str a b t
  | _=>exact absurd (show false=true from fx) cZ
 | int a =>
  obtain⟨t',rfl⟩:=ry;cases x with
  | eU=>cases rx;exact SeqAt.EqAt.int_none a t'
  | bl b=>cases rx;exact SeqAt.EqAt.int_bool a t' b
  | int b=>obtain⟨t,rfl⟩:=rx;exact SeqAt.EqAt.int_int a t' b t
  | str b=>obtain⟨t,rfl⟩:=rx;exact SeqAt.EqAt.int_str a t' b t
  | _=>exact absurd (show false=true from fx) cZ
 | str a =>
  obtain⟨t',rfl⟩:=ry;cases x with
  | eU=>cases rx;exact SeqAt.EqAt.str_none a t'
  | bl b=>cases rx;exact SeqAt.EqAt.str_bool a t' b
  | int b=>obtain⟨t,rfl⟩:=rx;exact SeqAt.EqAt.str_int a t' b t
  | str b=>obtain⟨t,rfl⟩:=rx;exact SeqAt.EqAt.str_str a t' b t
  | _=>exact absurd (show false=true from fx) cZ
 | _=>exact absurd (show false=true from fy) cZ
def A3 (x:V)(u:Value):Bool:=match u with
 | .none=>uX .eU x
 | .bool b=>uX (.bl b) x
 | .int i _=>uX (.int i) x
 | .str z _=>uX (.str z) x
 | _=>false
def HQ {x y:V}{u:Value}(r:RelV y u)(f:gY y=true):A3 x u=uX y x:=by
 cases y with
 | eU=>cases r;rfl
 | bl b=>cases r;rfl
 | int i=>obtain⟨t,rfl⟩:=r;rfl
 | str z=>obtain⟨t,rfl⟩:=r;rfl
 | _=>exact absurd (show false=true from f) cZ
theorem oG {x:V}:∀{xs:List V}{us:List Value},aY xs us->xs.all gY=true->us.any (A3 x)=xs.any λy=>uX y x
 | _,_,.nil,_=>rfl
 | y::xs,u::us,.cons r t,f=>by
  rw [List.all_cons,kR] at f;rw [qW,qW,HQ r f.1,oG t f.2]
theorem k9 {A:Around}{s:Shared}{x:V}{v:Value}(rx:RelV x v)(fx:gY x=true):∀{xs:List V}{us:List Value},aY xs us->xs.all gY=true->∀u∈us,SeqAt.EqAt A s u v (A3 x u)
 | _,_,.nil,_=>λu hu=>by cases hu
 | y::xs,u::us,.cons r t,f=>λu' hu=>by
  rw [List.all_cons,kR] at f;rcases bX.mp hu with rfl | hu
  .rw [HQ r f.1];exact A4 r rx f.1 fx
  exact k9 rx fx t f.2 u' hu
def Np (x:V)(xs:List V):Bool:=xs.any λy=>uX y x
def SW (K:a8)(neg:Bool):R2:=λx y H Q=>∃p xs,y=.ref p/\(aG K H p xs\/aR K H p xs)/\gY x=true/\xs.all gY=true/\Q (.bl (if neg then !Np x xs else Np x xs)) H
def pF:kx X (compareOp .In) (SW X.K false):=by
 intro ag s σ H x y v u Q I rx ry h;obtain⟨p,xs,rfl,hq,fx,fs,q⟩:=h;cases ry;rcases hq with hq | hq
 .obtain⟨aN,r,pl,hz⟩:=I.list hq;refine SeqAt.in_listAt (A3 x) pl.isList (λw hw=>k9 rx fx r fs w (by simpa using hw)) ⟨.bl _,H,I,rfl,?_⟩;rw [show aN.toArray.any (A3 x)=aN.any (A3 x) by simp,oG r fs];exact q
 obtain⟨aN,r,pl,hz⟩:=I.tuple hq;refine SeqAt.in_tupleAt (A3 x) pl (λw hw=>k9 rx fx r fs w (by simpa using hw)) ⟨.bl _,H,I,rfl,?_⟩;rw [show aN.toArray.any (A3 x)=aN.any (A3 x) by simp,oG r fs];exact q
def jN:kx X (compareOp .NotIn) (SW X.K true):=by
 intro ag s σ H x y v u Q I rx ry h;obtain⟨p,xs,rfl,hq,fx,fs,q⟩:=h;cases ry;rcases hq with hq | hq
 .obtain⟨aN,r,pl,hz⟩:=I.list hq;refine SeqAt.notIn_listAt (A3 x) pl.isList (λw hw=>k9 rx fx r fs w (by simpa using hw)) ⟨.bl _,H,I,rfl,?_⟩;rw [show aN.toArray.any (A3 x)=aN.any (A3 x) by simp,oG r fs];exact q
 obtain⟨aN,r,pl,hz⟩:=I.tuple hq;refine SeqAt.notIn_tupleAt (A3 x) pl (λw hw=>k9 rx fx r fs w (by simpa using hw)) ⟨.bl _,H,I,rfl,?_⟩;rw [show aN.toArray.any (A3 x)=aN.any (A3 x) by simp,oG r fs];exact q
def aK:ig X (.builtin "len") (λxs H Q=>∃p ys,xs=[.ref p]/\(aG X.K H p ys\/aR X.K H p ys)/\Q (.int ys.length) H):=by
 intro ag s σ H xs us Q I r h;obtain⟨p,ys,rfl,hq,q⟩:=h;obtain⟨u,rfl,rx⟩:=vals1 r;cases rx;have hn:=wO;rcases hq with hq | hq
 .obtain⟨aN,r',pl,hz⟩:=I.list hq;have br:=r'.length;exact Calls.call_len_list pl.isList (by simp only [bN] <;> omega) ⟨.int ys.length,H,I.tok _,⟨s.toks+1,by rw [bN,br]⟩,q⟩
 obtain⟨aN,r',pl,hz⟩:=I.tuple hq;have br:=r'.length;exact len_tuple pl (by simp only [bN] <;> omega) ⟨.int ys.length,H,I.tok _,⟨s.toks+1,by rw [bN,br]⟩,q⟩
def ig.or {f:Value}{r r':List V->Hp->VK->Prop}(h:ig X f r)(h':ig X f r'):ig X f (λxs H Q=>r xs H Q\/r' xs H Q):=by
 intro ag s σ H xs us Q I rs q;rcases q with q | q
 .exact h ag s σ H xs us Q I rs q
 exact h' ag s σ H xs us Q I rs q
def cY:ig X (.type "list") (λxs H Q=>∃p ys,xs=[.ref p]/\(aG X.K H p ys\/aR X.K H p ys)/\∀l,H l=none->Q (.ref l) (upd H l (.lst ys))):=by
 intro ag s σ H xs us Q I r h;obtain⟨p,ys,rfl,hq,q⟩:=h;obtain⟨u,rfl,rx⟩:=vals1 r;cases rx;have fin:∀(aN:List Value),aY ys aN->ys.length<=sizeLine->∀(h':Heap) (c':Nat),(∀b o',s.heap.get? b=some o'->h'.get? b=some o') ->
   h'.get? s.heap.objs.size=some { cls:=.type "list",dict:=none,data:=.seq aN.toArray c',slots:=#[] }->EP X ag σ Q (.ref s.heap.objs.size) { s with heap:=h' }:=λaN r' hz h' c' kp e =>
  ⟨.ref s.heap.objs.size,_,I.laid (t':=s.toks) kp (aD _) (show cK X.prog X.w _ h' _ (.lst ys) from ⟨hz,aN,c',r',e⟩),rfl,q _ (I.bY.fresh (aD _))⟩
 rcases hq with hq | hq
 .obtain⟨aN,r',pl,hz⟩:=I.list hq;have br:=r'.length;obtain⟨o,ho,hc,n,hd⟩:=pl.isList;exact call_list_seq p (.inl rfl) ho hc hd (λh' c' kp e=>fin aN r' hz h' c' kp e) (by simp only [bN] <;> omega)
 obtain⟨aN,r',pl,hz⟩:=I.tuple hq;have br:=r'.length;obtain⟨o,ho,hc,n,hd⟩:=pl;exact call_list_seq p (.inr rfl) ho hc hd (λh' c' kp e=>fin aN r' hz h' c' kp e) (by simp only [bN] <;> omega)
def eX:ig X (.type "tuple") (λxs H Q=>∃p ys,xs=[.ref p]/\((aG X.K H p ys/\∀l,H l=none->Q (.ref l) (upd H l (.tup ys)))\/(aR X.K H p ys/\Q (.ref p) H))):=by
 intro ag s σ H xs us Q I r h;obtain⟨p,ys,rfl,h⟩:=h;obtain⟨u,rfl,rx⟩:=vals1 r;cases rx;rcases h with ⟨hq,q⟩ | ⟨hq,q⟩
 .obtain⟨aN,r',pl,hz⟩:=I.list hq;have br:=r'.length;refine call_tuple_list pl.isList (λh' kp=>?_) (by simp only [bN] <;> omega)
  have I1:Inv X ag σ H { s with heap:=h' }:=I.kept (t':=s.toks) kp;have I2:Inv X ag σ (upd H h'.objs.size (.tup ys)) { s with heap:=h'.push { cls:=.type "tuple",data:=.seq aN.toArray } } :=
   I1.laid (t':=s.toks) (λb o e=>bG _ e) (aD _) (show cK X.prog X.w _ _ _ (.tup ys) from ⟨hz,aN,r',IsTup.new _ _⟩)
  exact⟨.ref h'.objs.size,_,I2,rfl,q _ (I1.bY.fresh (aD _))⟩
 obtain⟨aN,r',pl,hz⟩:=I.tuple hq;exact call_tuple_same pl ⟨.ref p,H,I,rfl,q⟩
def UK (K:a8)(T:String)(x:V)(H:Hp):Prop:=match x with
 | .str _=>T = "str"
 | .int _=>T = "int"
 | .ref p=>(T = "list" /\ ∃xs,aG K H p xs)\/(T = "tuple" /\ ∃o,K.lookup p=some o/\o.cls=.type "tuple" /\ o.dict=none) \/
   (T = "dict" /\ ((∃kvs,H p=some (.dK kvs))\/∃kvs,H p=some (.dT kvs)))\/(T = "set" /\ ∃S n,H p=some (.set S n))
 | _=>False
def Fb {ag:List (Addr×Obj)}{σ:St}{H:Hp}{s:Shared}{T:String}{x:V}{v:Value}(I:Inv X ag σ H s)(r:RelV x v)(ty:UK X.K T x H) :
  s.TypeIs v T/\∀a,v=.ref a->∃ob,s.heap.get? a=some ob/\ob.dict=none:=by
 cases x with
 | str z =>
  obtain⟨t,rfl⟩:=r;cases (show T = "str" from ty);exact⟨typeIs_str s z t,λ_ e=>nomatch e⟩
 | int i =>
  obtain⟨t,rfl⟩:=r;cases (show T = "int" from ty);exact⟨typeIs_int s i t,λ_ e=>nomatch e⟩
 | ref p =>
  cases r;rcases ty with ⟨rfl,xs,hq⟩ | ⟨rfl,o,hk,hc,hd⟩ | ⟨rfl,hk⟩ | ⟨rfl,S,n,hk⟩
  .obtain⟨aN,_,pl,_⟩:=I.list hq;refine⟨pl.isList.typeIs,λa e=>?_⟩;cases e;obtain⟨o,n,e,c,hd,_⟩:=pl;exact⟨o,e,hd⟩
  .refine⟨⟨o,I.wU p o hk,hc⟩,λa e=>?_⟩;cases e;exact⟨o,I.wU _ o hk,hd⟩
  .have z:∃o,s.heap.get? p=some o/\o.ExactDict:=by
    rcases hk with ⟨kvs,hk⟩ | ⟨kvs,hk⟩
    .obtain⟨_,_,_,_,o,_,_,e,ex,_⟩:=I.bY p _ hk;exact⟨o,e,ex⟩
    obtain⟨_,_,_,_,o,_,_,e,ex,_⟩:=I.bY p _ hk;exact⟨o,e,ex⟩
   obtain⟨o,e,ex⟩:=z;refine⟨⟨o,e,ex.1⟩,λa e2=>?_⟩;cases e2;exact⟨o,e,ex.2.1⟩
  obtain⟨o,_,_,_,e,ex,_⟩:=I.bY p _ hk;refine⟨⟨o,e,ex.1⟩,λa e2=>?_⟩;cases e2;exact⟨o,e,ex.2.1⟩
 | _=>exact False.elim ty
def UZ (K:a8)(T:String)(r:V->List V->Hp->VK->Prop)(to:TE):TE:=λσ H Q=>to σ H λx H1=>UK K T x H1/\r x [] H1 Q
def tBM (K:a8)(T:String)(r:V->List V->Hp->VK->Prop)(to:TE)(t:TA):TE:=λσ H Q=>to σ H λx H1=>UK K T x H1/\t σ H1 λxs H2=>r x xs H2 Q
variable {o e:Expr}{es:List Expr}{to:TE}{t:TA}{name:Str}{apos gT:Pos}{T id:String}{r:V->List V->Hp->VK->Prop}
def Ge (pa:PlainAttrs T)(slot:Slot T name id)(Wl:typeOf (.builtin id)=pure (.type "method_descriptor"))(hm:Pg X id r)(ho:PE X o to)
  (Hw:attributeBase o name X.env (eval o X.env)=eval o X.env:=by rfl)(Ho:(apos.endLine == gT.line)=true:=by rfl):PE X (.Call (.Attribute o name apos) [] [] gT) (UZ X.K T r to):=by
 intro ag s σ H Q I h;refine wpAny_Call_method0_late Hw Ho (cW (ho ag s σ H _ I h) λv s1 ⟨x,H1,I1,r1,ty,q1⟩=>?_);obtain⟨h1,h2⟩:=Fb I1 r1 ty;exact⟨T,id,pa,slot,Wl,h1,h2,rD rfl (PySem.evalArgs_none (hm ag s1 σ H1 x [] v [] Q I1 r1 .nil q1))⟩
def gQ (pa:PlainAttrs T)(slot:Slot T name id)(Wl:typeOf (.builtin id)=pure (.type "method_descriptor"))(hm:Pg X id r)(ho:PE X o to)(ha:PA X (e::es) t)
  (Hw:attributeBase o name X.env (eval o X.env)=eval o X.env:=by rfl)
  (WS:((backTo gT (starEach (e::es) X.env)).all (λx=>!x.1) && (backToKw gT (keywordEach [] X.env)).all (λx=>x.1.isSome)
   && decide ((e::es).length+([]:List Keyword).length+(if ([]:List Keyword).isEmpty then 0 else 1) < 30))=true:=by rfl)
  (Ho:(apos.endLine == gT.line)=true:=by rfl)(hs:starEach (e::es) X.env=(false,eval e X.env)::starEach es X.env:=by rfl)(Nv:(backTo gT (starEach es X.env)).any (·.1)=false:=by rfl) :
  PE X (.Call (.Attribute o name apos) (e::es) [] gT) (tBM X.K T r to t):=by
 intro ag s σ H Q I h;refine wpAny_Call_method_late Hw WS Ho rfl (cW (ho ag s σ H _ I h) λv s1 ⟨x,H1,I1,r1,ty,q1⟩=>?_);obtain⟨h1,h2⟩:=Fb I1 r1 ty;refine⟨T,id,pa,slot,Wl,h1,h2,?_⟩;have hA:=ha gT ag s1 σ H1 _ I1 q1;rw [hs] at hA ⊢;refine rD (by show (false || (backTo gT (starEach es X.env)).any (·.1))=false;rw [Nv] <;> rfl) (vx ?_)
 exact cW hA λus s2 ⟨vs,H2,I2,r2,q2⟩=>hm ag s2 σ H2 x vs v us Q I2 r1 r2 q2
end
def Yq (X:Cx)(id:String)(r:V->List V->Hp->VK->Prop):Prop :=
 ∀(ag:List (Addr×Obj))(s:Shared)(σ:St)(H:Hp)(x:V)(xs:List V)(v:Value)(us:List Value)(Q:VK),Inv X ag σ H s->RelV x v->aY xs us->r x xs H Q ->
  wpAny (model X.prog X.w) X.A (call (.builtin id) (v::us)) (EP X ag σ Q) X.xe s
def aY.one:∀{x:V}{us:List Value},aY [x] us->∃u,us=[u]/\RelV x u
 | _,_,.cons r .nil=>⟨_,rfl,r⟩
def aY.two:∀{x y:V}{us:List Value},aY [x,y] us->∃u v,us=[u,v]/\RelV x u/\RelV y v
 | _,_,_,.cons r (.cons q .nil)=>⟨_,_,rfl,r,q⟩
def aY.zero:∀{us:List Value},aY [] us->us=[]
 | _,.nil=>rfl
theorem aY.dropLast {xs:List V}{us:List Value}(h:aY xs us):aY xs.dropLast us.dropLast:=by
 induction h with
 | nil=>exact .nil
 | cons r t ih =>
  cases t with
  | nil=>exact .nil
  | cons q t'=>exact .cons r ih
theorem aY.eraseIdx:∀{xs:List V}{us:List Value}(i:Nat),aY xs us->aY (xs.eraseIdx i) (us.eraseIdx i)
 | _,_,_,.nil=>.nil
 | _,_,0,.cons _ t=>t
 | _,_,i+1,.cons r t=>.cons r (aY.eraseIdx i t)
theorem aY.reverse {xs:List V}{us:List Value}(h:aY xs us):aY xs.reverse us.reverse:=by
 induction h with
 | nil=>exact .nil
 | cons r t ih=>rw [mz,mz];exact aY.append ih (.cons r .nil)
def A2 {α:Type}(l:List α):l.eraseIdx (l.length - 1)=l.dropLast:=by
 induction l with
 | nil=>rfl
 | cons a r ih =>
  cases r with
  | nil=>rfl
  | cons b r =>
   have e:(a::b::r).length - 1=((b::r).length - 1)+1:=by
    have h1:(a::b::r).length=r.length+2:=rfl;have h2:(b::r).length=r.length+1:=rfl;omega
   rw [e,List.eraseIdx_cons_succ,ih]
   all_goals rfl
section
variable {X:Cx}{ag:List (Addr×Obj)}{σ:St}{H:Hp}{s:Shared}{l b:Addr}{xs ys zs:List V}
def Inv.M8 {aN ug:List Value}{n:Nat}{f:Array Value->Array Value}{t':Nat}(I:Inv X ag σ H s)(hH:H l=some (.lst xs))
  (e:s.heap.get? l=some { cls:=.type "list",data:=.seq aN.toArray n })(hf:f aN.toArray=ug.toArray)(hv:aY ys ug)(hz:ys.length<=sizeLine) :
  Inv X ag σ (upd H l (.lst ys)) { s with heap:=s.heap.update l (Obj.mapSeq f),toks:=t' }:=by
 have q:=PySem.IsL.update e f;rw [hf] at q;refine I.write (x:=l) (e:=l) (by rw [hH];exact trivial) (.inl rfl) (λb' u hb hu=>(vH s.heap (Obj.mapSeq f) (fk hb)).trans hu) ⟨_,q⟩ ?_;exact⟨hz,ug,_,hv,q⟩
def Inv.VT {aN:List Value}{t':Nat}(I:Inv X ag σ H s)(hv:aY ys aN)(hz:ys.length<=sizeLine) :
  Inv X ag σ (upd H s.heap.objs.size (.lst ys)) { s with heap:=s.heap.push { cls:=.type "list",data:=.seq aN.toArray },toks:=t' } :=
 I.laid (λ_ _ q=>bG _ q) (aD _) ⟨hz,aN,0,hv,cy _ rfl⟩
theorem Inv.fresh (I:Inv X ag σ H s):H s.heap.objs.size=none:=I.bY.fresh (aD _)
def Inv.Dv (I:Inv X ag σ H s)(hH:H l=some (.lst xs)):xs.length<=sizeLine/\∃(aN:List Value) (n:Nat),aY xs aN/\xs.length=aN.length/\s.heap.get? l=some { cls:=.type "list",data:=.seq aN.toArray n }:=by
 obtain⟨z,aN,n,r,e⟩:=I.bY l _ hH;exact⟨z,aN,n,r,r.length,e⟩
def GK {n:Nat}(h:n<=sizeLine):Builtin.List.listTooLong n=false:=by
 unfold Builtin.List.listTooLong;exact cU (by omega)
end
section
variable {X:Cx}
def Jy:V->List V->Hp->VK->Prop:=λx vs H Q=>∃l xs y,x=.ref l/\vs=[y]/\H l=some (.lst xs)/\xs.length < sizeLine/\Q .eU (upd H l (.lst (xs++[y])))
def bL:Yq X "list.append" Jy:=by
 intro ag s σ H x vs v us Q I rx rv h;obtain⟨l,xs,y,rfl,rfl,hH,hz,q⟩:=h;cases rx;obtain⟨u,rfl,ru⟩:=rv.one;obtain⟨z,aN,n,r,hl,e⟩:=I.Dv hH;refine call_meets F.slot_list_append ⟨_,e,rfl⟩ F.entry_list_append (F.args_list_append_2 _ _) (PySem.list_append l aN.toArray n u (by rw [bN];omega)) ⟨e,?_⟩;refine⟨.eU,_,I.M8 (ug:=aN++[u]) hH e (by simp) (r.append (.cons ru .nil)) ?_,rfl,q⟩;rw [bp,d8];omega
def Jx:V->List V->Hp->VK->Prop:=λx vs H Q=>∃l b xs zs,x=.ref l/\vs=[.ref b]/\H l=some (.lst xs)/\H b=some (.lst zs)/\xs.length+zs.length<=sizeLine/\Q .eU (upd H l (.lst (xs++zs)))
def OL:Yq X "list.extend" Jx:=by
 intro ag s σ H x vs v us Q I rx rv h;obtain⟨l,b,xs,zs,rfl,rfl,hH,hB,hz,q⟩:=h;cases rx;obtain⟨u,rfl,ru⟩:=rv.one;cases ru;obtain⟨z,aN,n,r,hl,e⟩:=I.Dv hH;obtain⟨z2,d6,n2,r2,ui,e2⟩:=I.Dv hB;have hsz:aN.toArray.size+d6.toArray.size<=sizeLine:=by rw [bN,bN];omega
 have Rh:¬(!aN.toArray.isEmpty && Builtin.List.listTooLong (aN.toArray.size+d6.toArray.size))=true:=by
  rw [GK hsz,oR];exact cZ
 refine call_meets F.slot_list_extend ⟨_,e,rfl⟩ F.entry_list_extend (F.args_list_extend_2 _ _)
  (AutoSeq1.list_extend_list_list_0 l aN.toArray n b d6.toArray n2 Rh (by rw [bN];omega) (by omega)) ⟨e,e2,?_⟩
 refine⟨.eU,_,I.M8 (ug:=aN++d6) hH e (by simp) (r.append r2) ?_,rfl,q⟩;rw [bp];omega
def Vk:V->List V->Hp->VK->Prop:=λx vs H Q=>∃l xs y,x=.ref l/\vs=[]/\H l=some (.lst xs)/\xs[xs.length - 1]?=some y/\Q y (upd H l (.lst xs.dropLast))
def GY:Yq X "list.pop" Vk:=by
 intro ag s σ H x vs v us Q I rx rv h;obtain⟨l,xs,y,rfl,rfl,hH,hy,q⟩:=h;cases rx;have hus:=rv.zero;subst hus;obtain⟨z,aN,n,r,hl,e⟩:=I.Dv hH;obtain⟨u,hu,ru⟩:=r.get hy;have Wh:aN.toArray[aN.toArray.size - 1]?=some u:=by
  show aN.toArray[aN.length - 1]?=some u;rw [<-qT,<-hl];exact hu
 refine call_meets F.slot_list_pop ⟨_,e,rfl⟩ F.entry_list_pop (F.args_list_pop_1 _) (MeetsSeq.list_pop_last l aN.toArray n u Wh (by rw [bN];omega)) ⟨e,?_⟩;refine⟨y,_,I.M8 (ug:=aN.dropLast) hH e ?_ r.dropLast ?_,ru,q⟩
 .show aN.toArray.eraseIdxIfInBounds (aN.toArray.size - 1)=aN.dropLast.toArray;rw [bN,List.eraseIdxIfInBounds_toArray,A2]
 rw [List.length_dropLast];omega
def Vm:R2:=λx y H Q=>∃l b xs zs,x=.ref l/\y=.ref b/\H l=some (.lst xs)/\H b=some (.lst zs)/\xs.length+zs.length<=sizeLine/\∀p,H p=none->Q (.ref p) (upd H p (.lst (xs++zs)))
def jO:kx X (binaryOp .Add) Vm:=by
 intro ag s σ H x y v u Q I rx ry h;obtain⟨l,b,xs,zs,rfl,rfl,hH,hB,hz,q⟩:=h;cases rx;cases ry;obtain⟨z,aN,n,r,hl,e⟩:=I.Dv hH;obtain⟨z2,d6,n2,r2,ui,e2⟩:=I.Dv hB;refine PySem.P.add_list e e2 ?_ (by rw [bN,bN];omega);have ea:aN.toArray++d6.toArray=(aN++d6).toArray:=by simp
 rw [ea];exact⟨.ref _,_,I.VT (t':=s.toks) (r.append r2) (by rw [bp];omega),rfl,q _ I.fresh⟩
end
section
variable {prog:Program}{w:World}{A:Around}{E:Value->Shared->Prop}{s:Shared}
set_option maxRecDepth 100000 in
end
section
variable {X:Cx}
end
end L2
namespace Je
open PySem PySem.W PySem.Calls PyProof.Rows
def qx {P:Params}{h:Heap}:∀(ns:List Int)(vs:List Value),WellAll P h vs (ns.map WData.int)->IntsAre vs ns:=by
 intro ns
 induction ns with
 | nil =>
  intro vs w;rw [ml] at w;cases w;exact .nil
 | cons n ns ih =>
  intro vs w;rw [cN] at w;cases w with
  | cons a b =>
   cases a;exact .cons _ _ (ih _ b)
def CQ {l:OpenLaw}{n:Nat}(hn:l.most=some n){P:Params}{h:Heap}{args:List WData}{vals:List Value}
  (J3:l.row.toRowW.claim.pre args=true)(Wj:WellAll P h vals args) :
  ∃a vs ns,vals=[Value.ref a]/\args=[WData.list (ns.map WData.int)]/\h.get? a=some { cls:=.type "list",data:=.seq vs.toArray }/\IntsAre vs ns/\ns.length<=n:=by
 have hsh:WShape.hasAll [] args [.list .int]=true:=(pre_splitW J3).1;have hc:l.pre.holds [] { args:=args }=true:=(pre_splitW J3).2;obtain⟨d,r,rfl,h1,h2⟩:=hasAllW_cons hsh;obtain rfl:=hasAllW_nil h2;obtain⟨xs,rfl,h3⟩:=hasW_list h1;obtain⟨ns,rfl⟩:=items_int h3;have br:ns.length<=n:=by
  unfold OpenLaw.pre at hc;have h4:(WTm.not (.lt (.lit (.int (n:Int))) (.len (.arg 0)))).holds [] { args:=[.list (ns.map .int)] }=true:=by
   have h4:=(holds_andW hc).1;rw [hn] at h4;exact h4
  have h5:=condW_of h4 (w_not (w_lt w_lit (w_len_list (w_arg rfl))));rw [av] at h5;refine Nat.le_of_not_lt λq=>?_;have q':(n:Int) < ((ns.length:Nat):Int):=by omega
  first
   | (rw [bM q'] at h5;exact absurd h5 (by decide))
   | (simp at h5;omega)
 cases Wj with
 | cons w1 w2 =>
  cases w2;cases w1 with
  | list ho qA=>exact⟨_,_,ns,rfl,rfl,ho,qx ns _ qA,br⟩
def C9 (l:OpenLaw)(args:List WData):l.row.toRowW.claim.post args (.bool true) args=true :=
 postW_of (r:=l.row.toRowW) (X:=(true == true))
  (show WShape.has [] (.bool true) .bool=true by first | rfl | decide | simp [WShape.has,WShape.arms,WShape.armsAll])
  (show (WTm.eq .res (.lit (.bool true))).value [] { args:=args,res:=some (.bool true),after:=args }=some (.bool (true == true)) from w_eq_bool (w_res rfl) w_lit) rfl
def qo {l:OpenLaw}{n:Nat}{q:Program}{loose:List Str}{XP:(Str->Option Value)->Heap->Prop}{YP:World->Heap->Prop}{d:DefRec}
  (hn:l.most=some n)(NI:d.params.defaults=[])
  (call:∀(w:World)(s₀ s₁:Shared)(mg mb:Str->Option Value)(fa:Addr)(o:Obj)(pm cd doc:Value)(a:Addr)(vs:List Value)(ns:List Int),
   Ground q loose [] XP w s₀ mg mb s₁.heap->YP w s₁.heap ->
   s₁.heap.get? fa=some o->o.data=.func (docDef d.name d.params d.body d.scope pm cd doc)->s₁.heap.CodeRec cd d.name->mg d.name=some (.ref fa) ->
   s₁.heap.get? a=some { cls:=.type "list",data:=.seq vs.toArray }->IntsAre vs ns->ns.length<=n->s₁.gens=#[] ->
   codeAny (model l.prog w) callerA (.call (.ref fa) ⟨[.ref a],[]⟩) (λr s'=>r=.ok (.ret (.bool true))/\OldK s₁.heap s'.heap/\s'.os=s₁.os/\AllBare s'.gens) s₁) :
  WalkO q loose XP YP l.row.toRowW d [] (λf vs=>PySem.call f vs):=by
 intro w s₀ s₁ mg mb G Y fa o pm cd doc dV kV ho hd wY hD Nz hg args vals as J3 aam hrd Wj hlo;obtain rfl:dV=.none:=Dflts.none hD NI;obtain rfl:kV=.none:=Dflts.noKw hD;obtain⟨a,vs,ns,rfl,rfl,Hk,hints,br⟩:=CQ hn J3 Wj;refine enter_call (jz (call w s₀ s₁ mg mb fa o pm cd doc a vs ns G Y ho (fd_plain hd) wY Nz Hk hints br hg) λr s' hq=>?_);obtain⟨rfl,h2,h3,h4⟩:=hq;exact⟨.inl ⟨.bool true,.bool true,[],rfl,λ_=>rfl,.bool true,C9 l _,λ_=>⟨List.Pairwise.nil,λ_ hm=>(nomatch hm)⟩⟩,h2,h3,h4⟩
section
variable {prog:Program}{w:World}{A:Around}{E:Value->Shared->Prop}{s:Shared}{K:Frag}
def su (h:Heap):Heap:={ h with objs:=#[] }
def mI (h:Heap)(b:Addr):(su h).get? b=none:=by
 cases e:(su h).get? b with
 | none=>rfl
 | some o=>exact absurd (bu e) (q_ _)
def ledger (h:Heap)(L d:Addr):List (Addr×Obj):=(List.range h.objs.size).filterMap λa=>if a=L\/a=d then none else (h.get? a).map λo=>(a,o)
def jP {h:Heap}{L d a:Addr}{o:Obj}:(a,o)∈ledger h L d↔a≠L/\a≠d/\h.get? a=some o:=by
 unfold ledger;rw [List.mem_filterMap];constructor
 .rintro⟨b,_,e⟩
  split at e
  .cases e
  rename_i hb
  obtain⟨o',ho,e'⟩:=cf.mp e;cases e';exact⟨λq=>hb (.inl q),λq=>hb (.inr q),ho⟩
 rintro⟨n1,n2,ho⟩;refine⟨a,jC.mpr (bu ho),?_⟩;rw [aw (show ¬(a=L\/a=d) from λq=>q.elim n1 n2),ho] <;> rfl
def yn {h:Heap}{L d:Addr}{od:Obj}(ET:d≠L)(ho:h.get? d=some od):News (su h) L h ([]++(d,od)::ledger h L d):=by
 rintro⟨a,o⟩ hp;rcases bX.mp hp with e | hp
 .cases e;exact⟨ho,ET,mI _ _⟩
 obtain⟨n1,n2,e⟩:=jP.mp hp;exact⟨e,n1,mI _ _⟩
def NX {h:Heap}{L:Addr}{m:Str->Option Value}(n:h.Ns L m):Fr (su h) L h m :=
 ⟨n,λb o e=>(by rw [mI] at e;cases e),fh _⟩
end
end Je
namespace L2
open PySem PySem.Spec PyProof.Rows
theorem pb:∀{vs:List Value}{ns:List Int},IntsAre vs ns->aY (ns.map V.int) vs
 | _,_,.nil=>.nil
 | _,_,.cons n t h=>.cons ⟨t,rfl⟩ (pb h)
def Oz (H:Hp):Prop:=∀b,H b=none\/∃o xs,H b=some (.ku o (.lst xs))
def G6 {P:Program}{w:World}{K:a8}{mg mb:Str->Option Value}{CX:zB}{k:Nat}{fa a:Addr}{fd:FuncData}{x:Str}{sp:Sp}{s₁:Shared}{vs:List Value}{ns:List Int}
  (KX:K.In s₁.heap)(xt:s₁.heap.Ns mainGlobals mg)(hb:s₁.heap.Ns builtinsNs mb)(NM:∀x:Str,x ≠ "__name__" -> mb x=bootBuiltins x)(NA:s₁.heap.NoLimit)(hg:s₁.gens=#[])
  (ha:s₁.heap.get? a=some { cls:=.type "list",data:=.seq vs.toArray })(hi:IntsAre vs ns)(hl:ns.length<=sizeLine)(hr:fg k callerA)
  (F:∀base:Heap,K.In base->base.Ns mainGlobals mg->bQ P w K mg base CX k fa fd [x] sp)(om:∀(s:Shared)(u:Value),BindsTo s fd ⟨[u],[]⟩ [(x,u)])
  (zr:∀H:Hp,Oz H->aG K H a (ns.map V.int)->sp [.ref a] H (λv _=>v=.bl true) λ_ _ _=>False)
  (NS:∀H e s',CX [] H s₁ (λ_ _ _=>False) e s'->False) :
  codeAny (model P w) callerA (.call (.ref fa) ⟨[.ref a],[]⟩) (λr s'=>r=.ok (.ret (.bool true))/\OldK s₁.heap s'.heap/\s'.os=s₁.os/\AllBare s'.gens) s₁:=by
 have rv:=pb hi;have Nb:=hi.length;have core:∀H:Hp,Oz H->aG K H a (ns.map V.int)->mi P w H s₁.heap->(∀b,H b≠none->b=a)->(H a≠none->K.lookup a=none) ->
   codeAny (model P w) callerA (.call (.ref fa) ⟨[.ref a],[]⟩) (λr s'=>r=.ok (.ret (.bool true))/\OldK s₁.heap s'.heap/\s'.os=s₁.os/\AllBare s'.gens) s₁:=by
  intro H hO hS bY hA hK;have lP:∀{b:Addr}{o:Obj},s₁.heap.get? b=some o->H b=none->(mQ s₁.heap H).get? b=some o:=λe n=>yy e n;have Qr:∀{b:Addr}{o:Obj}{es:Array DictEntry}{ep:Nat},s₁.heap.get? b=some o->o.data=.dict es ep->H b=none:=λ{b o es ep} e d=>by
   cases q:H b with
   | none=>rfl
   | some u =>
    have e':b=a:=hA b (by rw [q];simp);subst e';rw [ha] at e;cases e;have d':Data.seq vs.toArray _=Data.dict es ep:=d;cases d'
  have JR:∀{b:Addr}{m:Str->Option Value},s₁.heap.Ns b m->(mQ s₁.heap H).Ns b m:=λ{b m} ⟨o,es,ep,e,d,r⟩=>⟨o,es,ep,lP e (Qr e d),d,r⟩;have RF:K.In (mQ s₁.heap H):=λb o e=>lP (KX b o e) (by
   cases q:H b with
   | none=>rfl
   | some u =>
    have e':b=a:=hA b (by rw [q];simp);subst e';rw [hK (by rw [q];simp)] at e;cases e)
  have hM:Mod K mg (mQ s₁.heap H):=⟨RF,JR xt,⟨mb,JR hb,NM⟩,let ⟨mc,h1,h2⟩:=NA;⟨mc,JR h1,h2⟩⟩;have e0:qD P w K mg (mQ s₁.heap H) callerA [] s₁ H:=⟨rfl,hM,λb o e=>Cb e,Nat.le_of_eq (uS _ _),trivial,λb hb=>absurd (show b∈([]:List Addr) from hb) (by simp),bY,.of_eq hg⟩;refine jz ((F _ RF (JR xt)).run callerA [] s₁ H ⟨[.ref a],[]⟩ [.ref a] [.ref a] _ _ hr e0 (om s₁ (.ref a)) (.cons rfl .nil) (zr H hO hS)) λr s' h=>?_;cases r with
  | error e=>exact(NS H e s' h).elim
  | ok fl =>
   cases fl with
   | next=>exact False.elim h
   | brk=>exact False.elim h
   | cont=>exact False.elim h
   | ret u =>
    obtain⟨v,H',os,bare,un,J_,r',q⟩:=h;have q':v=.bl true:=q;subst q';obtain rfl:u=Value.bool true:=r';refine⟨rfl,OldK.of_keep λb o e=>?_,os,bare⟩;cases q:H b with
    | none=>exact un.keep b o e q (by intro z;exact absurd (show b∈([]:List Addr) from z) (by simp)) (by simp)
    | some u =>
     rcases hO b with z | ⟨ob,xs,z⟩
     .rw [q] at z;cases z
     have z2:=un.mS b ob _ z;obtain⟨e1,_⟩:=bY b _ z;obtain⟨e2,_⟩:=J_ b _ z2;rw [e] at e1;cases e1;exact e2
 cases hk:K.lookup a with
 | some o =>
  have e:=KX a o hk;rw [ha] at e;cases e;refine core (λ_=>none) (λ_=>.inl rfl) (.inr ⟨_,vs.toArray,_,hk,rfl,rfl,rfl,by rw [bN,Nb];exact hl,by simpa using rv⟩) (λb u z=>by have z':(none:Option HO)=some u:=z;cases z') (λb z=>absurd rfl z) λz=>absurd rfl z
 | none =>
  refine core (λb=>if b=a then some (.ku { cls:=.type "list",data:=.seq vs.toArray } (.lst (ns.map V.int))) else none) (λb=>?_) (.inl (.inr ⟨{ cls:=.type "list",data:=.seq vs.toArray },ax rfl⟩)) (λb u z=>?_) (λb z=>?_) λ_=>hk
  .by_cases hb:b=a
   .exact .inr ⟨_,_,ax hb⟩
   exact .inl (aw hb)
  .by_cases hb:b=a
   .have z':=(ax hb).symm.trans z;cases z';subst hb;exact⟨ha,by rw [av];exact hl,vs,_,rv,ha⟩
   have z':=(aw hb).symm.trans z;cases z'
  by_cases hb:b=a
  .exact hb
  exact absurd (aw hb) z
abbrev KOf {K:a8}{h:Heap}(_:K.In h):a8:=K
def SF {l:PySem.W.OpenLaw}{n k:Nat}{q:Program}{loose:List Str}{XP:(Str->Option Value)->Heap->Prop}{YP:World->Heap->Prop}{d:DefRec}{K:Params->a8}{CX:World->zB}{sp:World->Sp}{x:Str}
  (hn:l.most=some n)(Hn:n<=sizeLine)(NI:d.params.defaults=[])(hr:fg k callerA)
  (hY:∀(w:World)(h:Heap),YP w h->(K w.params).In h)
  (F:∀(w:World)(mg:Str->Option Value)(fa:Addr)(h:Heap),(K w.params).In h->h.Ns mainGlobals mg->mg d.name=some (.ref fa) ->
   ∃fd:FuncData,(∀(s:Shared)(u:Value),BindsTo s fd ⟨[u],[]⟩ [(x,u)]) /\
    ∀base:Heap,(K w.params).In base->base.Ns mainGlobals mg->bQ l.prog w (K w.params) mg base (CX w) k fa fd [x] (sp w))
  (zr:∀(w:World)(H:Hp)(a:Addr)(ns:List Int),ns.length<=n->Oz H->aG (K w.params) H a (ns.map V.int)->sp w [.ref a] H (λv _=>v=.bl true) λ_ _ _=>False)
  (NS:∀(w:World)(H:Hp)(s:Shared)(e:Value)(s':Shared),CX w [] H s (λ_ _ _=>False) e s'->False) :
  PySem.W.WalkO q loose XP YP l.row.toRowW d [] (λf vs=>PySem.call f vs):=by
 refine Je.qo hn NI λw s₀ s₁ mg mb fa o pm cd doc a vs ns G Y ho hd wY Nz Hk hints br hg=>?_;have KX:=hY w _ Y;obtain⟨fd,hb,hF⟩:=F w mg fa _ KX G.T.g Nz;exact G6 KX G.T.g G.T.b G.T.builtins G.T.nolimit hg Hk hints (dH br Hn) hr hF hb (λH hO hS=>zr w H a ns br hO hS) λH e s'=>NS w H s₁ e s'
def dA (s:Stmt):Arguments:=match s with
 | .FunctionDef _ a _ _ _ _ _ _ _ _=>a
 | _=>{ posonlyargs:=[],args:=[],vararg:=none,kwonlyargs:=[],kw_defaults:=[],kwarg:=none,defaults:=[] }
def cv (s:Stmt):List Stmt:=match s with
 | .FunctionDef _ _ b _ _ _ _ _ _ _=>b
 | _=>[]
def ay (s:Stmt):Scope:=match s with
 | .FunctionDef _ _ _ _ _ _ sc _ _ _=>sc
 | _=>{ kind:=.function,names:=[],isGenerator:=false,isCoroutine:=false }
abbrev fX:zB:=λ_ _ _ _ _ _=>False
abbrev E0:XK:=λ_ _ _=>False
def uI {X:Cx}:Passes fX X E0:=λ_ _ _ _ _ _ _ h=>h.elim
structure ix (K:a8)(x qual:Str)(st:Stmt)(f:Addr)(fd:FuncData):Prop where
 ex:∃(oc:Value)(od:Option Addr)(kV doc pm:Value)(an:Option Addr)(eJ ct:Value)(wG:Array (Option Value)),
  fd=PySem.W.fnOf x qual (dA st) (cv st) (ay st) .none kV doc pm an eJ ct/\K.lookup f=some ⟨oc,od,.func fd,wG⟩/\PySem.W.codeIn K eJ qual=true
 kp:PySem.W.keepIn K (.ref f)=true
section
variable {P:Program}{w:World}{K:a8}{mg:Str->Option Value}{base:Heap}
def ix.ok {x qual:Str}{st:Stmt}{f:Addr}{fd:FuncData}{N ps:List Str}{k:Nat}{sp:Sp}(F:ix K x qual st f fd)(S:aI N ps (ay st))(len:∀vs H Q E,sp vs H Q E->vs.length=ps.length)
  (jr:∀(eJ:Value)(A:Around)(outer:List Env)(s:Shared)(H:Hp)(vs:List V)(Q:VK)(E:XK),fg k (A.deeper (envOfC qual (ay st) s.heap.objs.size f eJ))->sp vs H Q E ->
   ∃t,Bj (pR fX P w K mg base N qual (ay st) f eJ A outer s H E).Dt (cv st) t/\t { nx:=λ_ H'=>Q .eU H',rt:=Q } (start N vs) H):bQ P w K mg base fX (k+1) f fd ps sp:=by
 obtain⟨oc,od,kV,doc,pm,an,eJ,ct,wG,rfl,lk,wY⟩:=F.ex;refine HK lk wY S len λA outer s H vs Q E hr zr=>?_;obtain⟨t,h,q⟩:=jr eJ A outer s H vs Q E hr zr;exact⟨t,h.Dt,q⟩
def ix.binds {x qual:Str}{st:Stmt}{f:Addr}{fd:FuncData}{ps:List Str}(F:ix K x qual st f fd)
  (h:∀(kV doc pm:Value)(an:Option Addr)(eJ ct:Value)(us:List Value),us.length=ps.length->bindArgs (PySem.W.fnOf x qual (dA st) (cv st) (ay st) .none kV doc pm an eJ ct) ⟨us,[]⟩=pure (ps.zip us)):Binds K fd ps []:=by
 obtain⟨oc,od,kV,doc,pm,an,eJ,ct,wG,rfl,lk,wY⟩:=F.ex;exact .all (h kV doc pm an eJ ct)
def HG {x qual:Str}{st:Stmt}{f:Addr}{oc:Value}{od an:Option Addr}{wG:Array (Option Value)}{kV doc pm eJ ct:Value}(l:K.lookup f=some ⟨oc,od,.func (PySem.W.fnOf x qual (dA st) (cv st) (ay st) .none kV doc pm an eJ ct),wG⟩)
  (c:PySem.W.codeIn K eJ qual=true)(k:PySem.W.keepIn K (.ref f)=true):ix K x qual st f (PySem.W.fnOf x qual (dA st) (cv st) (ay st) .none kV doc pm an eJ ct):=⟨⟨oc,od,kV,doc,pm,an,eJ,ct,wG,rfl,l,c⟩,k⟩
end
def fV {A:Around}{k:Nat}(hr:fg k A):A.units+1 < cLine:=rq (Nat.add_le_add_left (by decide:1<=64) _) hr.units
section
variable {X:Cx}
def pv (i:Nat){x:Str}{pos:Pos}(hN:X.N[i]?=some x:=by rfl)(hv:Uo X.env.scope x:=by first | exact Or.inl rfl | exact Or.inr (bA rfl) | exact Or.inr (Or.inr rfl))(hd:(x == ("__debug__":Str))=false:=by decide)
  (wY:(x == ("__classdict__":Str))=false:=by decide):PE X (.Name x pos) (gC i):=MS hN hv hd wY
end
def dq {A B:Prop}(h:B):if false=true then A else B:=by
 rw [aw cZ];exact h
def g8 {A B:Prop}(h:A):if true=true then A else B:=by
 rw [ax rfl];exact h
def cD {c A B:Prop} [Decidable c] (h1:c->A)(h2:¬c->B):if c then A else B:=by
 by_cases h:c
 .rw [ax h];exact h1 h
 rw [aw h];exact h2 h
def aB (H H':Hp):Prop:=∀b o,H b=some o->H' b=some o
def aB.refl (H:Hp):aB H H:=λ_ _ h=>h
def aB.trans {H H1 H2:Hp}(a:aB H H1)(b:aB H1 H2):aB H H2:=λc o h=>b c o (a c o h)
def aB.free {H H':Hp}(e:aB H H'){l:Addr}(h:H' l=Option.none):H l=Option.none:=by
 cases q:H l with
 | none=>rfl
 | some o =>
  rw [e l o q] at h;cases h
def aB.seq {K:a8}{H H':Hp}{a:Addr}{xs:List V}(e:aB H H')(h:aG K H a xs):aG K H' a xs:=by
 rcases h with (h | ⟨o,h⟩) | h
 .exact .inl (.inl (e _ _ h))
 .exact .inl (.inr ⟨o,e _ _ h⟩)
 exact .inr h
end L2
namespace HD
open PySem PySem.W
def FQ (st:SharedT->Thread->Option (SharedT×Thread))(ok:Thread->Bool):Nat->SharedT->Thread->Option SharedT
 | 0,_,_=>none
 | n+1,s,t=>match through t with
  | true=>some s
  | false=>match ok t with
   | false=>none
   | true=>match st s t with
    | some (s',t')=>FQ st ok n s' t'
    | none=>none
theorem B3 {tb:String->Option Builtin}{p:Program}{w:World}{n₀:Nat}{ann:Option Value}:∀{n:Nat}{s s':SharedT}{t:Thread},FQ (stepT (denote tb) p w) (stepOk n₀ ann) n s t=some s'->topRun tb p w n₀ ann n s.abs t=some s'.abs
 | 0,_,_,_,h=>by cases h
 | n+1,s,s',t,h=>by
  unfold FQ at h;unfold topRun;cases he:through t with
  | true=>rw [he] at h;cases h;rfl
  | false =>
   rw [he] at h;cases hk:stepOk n₀ ann t with
   | false=>rw [hk] at h;cases h
   | true =>
    rw [hk] at h;cases hs:stepT (denote tb) p w s t with
    | none=>rw [hs] at h;cases h
    | some r=>obtain⟨s₂,t₂⟩:=r;rw [hs] at h;rw [stepT_spec hs];exact B3 h
def n5:List Obj->Nat->BT->BT
 | [],_,t=>t
 | o::r,i,t=>n5 r (i+1) (t.ins i o)
noncomputable def Cw (P:Params):BT:=n5 (boot_heap P).objs.toList 0 .nil
def Ez (P:Params):absHeap (Cw P) 11 {}=boot_heap P:=by kernel_rfl
def NZ {β:Type}:Obj->(Obj->β)->β
 | ⟨c,d,t,s⟩,k=>k ⟨c,d,t,s⟩
def qN {β:Type}:List Obj->(List Obj->β)->β
 | [],k=>k []
 | x::r,k=>NZ x λy=>qN r λys=>k (y::ys)
theorem sU {β:Type}:∀(l:List Obj)(k:List Obj->β),qN l k=k l
 | [],_=>rfl
 | ⟨c,d,t,s⟩::r,k=>by
  show qN r (λys=>k (⟨c,d,t,s⟩::ys))=_;rw [sU r]
def G3 (p q:Program) (loose:List Str)(Xt:Shared->Bool){α:Type}(Yf:Shared->α)(g0:Bool)(h₀:Heap)(s:Shared) :=
 ((staticsOk (importedModules p.main.body) h₀ s.heap && namesBound p s.heap && gensDone s && laidKept h₀ s.heap),openSeen q loose (importedModules p.main.body) Xt g0 s,Yf s)
def Ft {β:Type}(f:Shared->β)(s:SharedT):β:=qN (s.tree.list s.n) λl=>f ⟨⟨l.toArray,s.life⟩,s.gens,s.drawn,s.toks,s.os⟩
def Fs {β:Type}(f:Shared->β)(s:SharedT):Ft f s=f s.abs:=sU _ _
def QF {p q:Program}{loose:List Str}{Xt:Shared->Bool}{α:Type}{Yf:Shared->α}{Ya:World->α}{N:Nat}{g0:Bool}{ann:Option Value}{M:Nat}
  (Gg:∀w:World,(fencedOpening treeTable p w N).map (λs=>(s.heap,s.gens,s.drawn,s.toks))=some (boot_heap w.params,Array.mk [],boot_drawn,boot_toks))
  (size:∀w:World,((boot_heap w.params).isNs mainGlobals && (Array.mk []:Array GenState).size == 0,(boot_heap w.params).objs.size,(boot_heap w.params).nsMap mainGlobals "__annotations__")=(true,11,ann))
  (run:∀(w:World)(os:OsState),(FQ (stepT (denote treeTable) p w) (stepOk 11 ann) M ⟨Cw w.params,11,{},Array.mk [],boot_drawn,boot_toks,os⟩ (topStub p)).map (Ft (G3 p q loose Xt Yf g0 (boot_heap w.params)))=some (true,openGood q loose,Ya w))
  (le:Nat.ble M N=true):LeftO p q loose Xt Yf Ya N g0:=λw=>by
 obtain⟨⟨h,gs,d,k,os⟩,e,e'⟩:=cf.mp (Gg w);obtain⟨rfl,rfl,rfl,rfl⟩:h=boot_heap w.params/\gs=Array.mk []/\d=boot_drawn/\k=boot_toks:=by simpa using e'
 obtain⟨z1,z2,z3⟩:_/\_/\_:=by simpa only [qX] using size w
 obtain⟨s',r0,l0⟩:=cf.mp (run w os);rw [Fs] at l0;obtain⟨l1,l2,l3⟩:_/\_/\_:=by simpa only [G3,qX] using l0
 have r:=B3 r0;have ea:SharedT.abs ⟨Cw w.params,11,{},Array.mk [],boot_drawn,boot_toks,os⟩=⟨boot_heap w.params,Array.mk [],boot_drawn,boot_toks,os⟩:=by
  unfold SharedT.abs;rw [Ez]
 rw [ea] at r;have r:=topRun_mono (N - M) _ _ _ _ r;rw [show M+(N - M)=N by have:=Nat.le_of_ble_eq_true le;omega] at r;have t:topFrom treeTable p w N ⟨boot_heap w.params,Array.mk [],boot_drawn,boot_toks,os⟩=some s'.abs:=by
  unfold topFrom;dsimp only;rw [z1,z2,z3,r];show (match staticsOk (importedModules p.main.body) (boot_heap w.params) s'.abs.heap && namesBound p s'.abs.heap && gensDone s'.abs && laidKept (boot_heap w.params) s'.abs.heap with | true=>_ | false=>_)=_
  rw [l1]
 unfold openEnds;rw [e];show (topFrom treeTable p w N _).map _=_;rw [t];exact congrArg some (Prod.ext l2 l3)
end HD
set_option maxHeartbeats 0
namespace HD
open PySem PySem.W L2
def dE (P:Params)(x:Str)(t:Tok)(v:Value):DictEntry:=⟨PyData.keyHash P x,.str x t,v⟩
def top (p:Program) (i:Nat):Stmt:=p.main.body.getD i (.Pass ⟨0,0,0,0⟩)
def jm (p:Program) (i j:Nat):Stmt:=match top p i with
 | .ClassDef _ _ _ body _ _ _ _ _ _ _=>body.getD j (.Pass ⟨0,0,0,0⟩)
 | _=>.Pass ⟨0,0,0,0⟩
def posOf (s:Stmt):Pos:=match s with
 | .FunctionDef _ _ _ _ _ _ _ _ _ p=>p
 | _=>⟨0,0,0,0⟩
def cF (a:Addr)(n q:Str)(i:Nat)(l m:Int)(x y:Addr)(u v s t:Value)(z:Int)(w:Nat):Addr×Obj:=(a,⟨.type "code",none,.fields #[.str n i,.str q (i+1),.str "/claim/cut.py" (i+2),.int l 0,.int m 0,.int 0 0,.int 0 0,.int 3 0,.ref x,.bool true,.int 181 0,.ref y,u,v,s,t,.int z 0,.int l 0,.str "/claim/cut.py" w],#[]⟩)
def fF (a:Addr)(n q:Str)(s:Stmt)(m:Value):Addr×Obj:=(a,⟨.type "function",none,.func (fnOf n q (dA s) (cv s) (ay s) .none .none .none m none (.ref (a-1)) .none),#[]⟩)
def dR (P:Params)(x:Str)(t:Tok)(a:Addr):DictEntry:=dE P x t (.ref a)
def m0:Value:=.str "__main__" 164
def m1:Value:=.str "wright.rules" 194
def m2:Value:=.str "wright.deed_trees" 234
def m3:Value:=.str "wright.begin_tables" 283
def m4:Value:=.str "wright.errors" 377
def m5:Value:=.str "wright.loops" 538
def m6:Value:=.str "wright.tree_sizes" 568
def m7:Value:=.str "wright.grammar_faults" 589
def m8:Value:=.str "wright.least_trees" 616
def m9:Value:=.str "wright.grammars" 702
def mX:Value:=.str "law_wright_k67_trees_of_deeds" 745
noncomputable def K' (p:Program)(P:Params):Frag:=[
 (2,⟨.none,none,.dict #[] 0,#[]⟩),
 (3,⟨.type "dict",none,.dict #[dE P "__name__" 165 (.str "law_wright_k67_trees_of_deeds" 745),dE P "__doc__" 166 (.none),dE P "__package__" 167 (.none),dE P "__loader__" 168 (.builtin "__main__.__loader__#opaque"),dE P "__spec__" 169 (.none),dR P "__annotations__" 170 6,dR P "__builtins__" 171 4,dE P "__file__" 173 (.str "/claim/cut.py" 172),dE P "__cached__" 174 (.none),dR P "_wall" 193 21,dR P "heads_of" 201 26,dR P "words_in" 207 31,dR P "numbers_by_name" 213 36,dR P "standings_by_part" 225 43,dR P "is_number_below" 233 50,dR P "tree_of" 241 55,dR P "do_deed" 251 62,dR P "do_step" 260 69,dR P "do_make" 272 76,dR P "is_child" 282 83,dR P "found_empties" 290 88,dR P "first_places" 301 95,dR P "BeginTable" 376 145,dR P "WrightError" 396 159,dR P "NoRules" 412 172,dR P "Twice" 437 191,dR P "Endless" 462 210,dR P "Unmet" 487 229,dR P "Loop" 512 248,dR P "Vast" 537 267,dR P "find_loop" 545 274,dR P "steps_with_like_rows" 551 279,dR P "way_back" 567 286,dR P "least_sizes" 575 291,dR P "greatest_empty_sizes" 582 298,dR P "settled_sizes" 588 303,dE P "MOST_RULES" 592 (.int (60) 591),dR P "refuse_faults" 598 308,dR P "refuse_twice" 609 315,dR P "names_met" 615 320,dR P "least_by_part" 623 325,dR P "rule_size" 629 330,dR P "empty_by_name" 635 335,dR P "LeastTrees" 701 378,dR P "Grammar" 744 407,dR P "_law_cell_at" 754 418,dR P "_law_names" 760 423,dR P "_law_words" 767 430,dR P "_law_digits" 779 437,dR P "_law_skeleton" 793 444,dR P "_law_more" 808 451,dR P "_law_ended" 814 456,dR P "_law_good" 820 461,dR P "_law_grammar" 834 468,dR P "_law_least" 840 473,dR P "_law_tree" 855 480,dR P "_law_deeds" 864 487,dR P "_law_drawn_tree" 870 492,dR P "_law_is" 876 497,dR P "law" 882 502] 60,#[]⟩),
 (cF 20 "_wall" "_wall" 187 1 1 15 16 .none (.ref 17) (.ref 18) (.ref 19) 191 192),
 (fF 21 "_wall" "_wall" (top p 0) m0),
 (cF 25 "heads_of" "heads_of" 196 5 1 22 23 .none .none .none (.ref 24) 199 200),
 (fF 26 "heads_of" "heads_of" (top p 2) m1),
 (cF 30 "words_in" "words_in" 202 7 1 27 28 .none .none .none (.ref 29) 205 206),
 (fF 31 "words_in" "words_in" (top p 3) m1),
 (cF 35 "numbers_by_name" "numbers_by_name" 208 15 1 32 33 .none .none .none (.ref 34) 211 212),
 (fF 36 "numbers_by_name" "numbers_by_name" (top p 4) m1),
 (cF 42 "standings_by_part" "standings_by_part" 214 20 1 37 38 .none (.ref 39) (.ref 40) (.ref 41) 223 224),
 (fF 43 "standings_by_part" "standings_by_part" (top p 5) m1),
 (cF 49 "is_number_below" "is_number_below" 226 26 2 44 45 .none (.ref 46) (.ref 47) (.ref 48) 231 232),
 (fF 50 "is_number_below" "is_number_below" (top p 6) m1),
 (cF 54 "tree_of" "tree_of" 236 29 2 51 52 .none .none .none (.ref 53) 239 240),
 (fF 55 "tree_of" "tree_of" (top p 8) m2),
 (cF 61 "do_deed" "do_deed" 242 38 4 56 57 .none (.ref 58) (.ref 59) (.ref 60) 249 250),
 (fF 62 "do_deed" "do_deed" (top p 9) m2),
 (cF 68 "do_step" "do_step" 252 44 3 63 64 .none (.ref 65) (.ref 66) (.ref 67) 258 259),
 (fF 69 "do_step" "do_step" (top p 10) m2),
 (cF 75 "do_make" "do_make" 261 49 4 70 71 .none (.ref 72) (.ref 73) (.ref 74) 270 271),
 (fF 76 "do_make" "do_make" (top p 11) m2),
 (cF 82 "is_child" "is_child" 273 59 4 77 78 .none (.ref 79) (.ref 80) (.ref 81) 280 281),
 (fF 83 "is_child" "is_child" (top p 12) m2),
 (cF 87 "found_empties" "found_empties" 285 64 1 84 85 .none .none .none (.ref 86) 288 289),
 (fF 88 "found_empties" "found_empties" (top p 14) m3),
 (cF 94 "first_places" "first_places" 291 75 2 89 90 .none (.ref 91) (.ref 92) (.ref 93) 299 300),
 (fF 95 "first_places" "first_places" (top p 15) m3),
 (cF 106 "__init__" "BeginTable.__init__" 314 84 2 103 104 .none .none .none (.ref 105) 317 318),
 (fF 107 "__init__" "BeginTable.__init__" (jm p 16 0) m3),
 (cF 113 "find_begins" "BeginTable.find_begins" 320 95 3 108 109 .none (.ref 110) (.ref 111) (.ref 112) 329 330),
 (fF 114 "find_begins" "BeginTable.find_begins" (jm p 16 1) m3),
 (cF 120 "words_of_part" "BeginTable.words_of_part" 332 103 2 115 116 .none (.ref 117) (.ref 118) (.ref 119) 337 338),
 (fF 121 "words_of_part" "BeginTable.words_of_part" (jm p 16 2) m3),
 (cF 127 "first_words" "BeginTable.first_words" 340 106 2 122 123 .none (.ref 124) (.ref 125) (.ref 126) 345 346),
 (fF 128 "first_words" "BeginTable.first_words" (jm p 16 3) m3),
 (cF 134 "all_empty" "BeginTable.all_empty" 348 109 2 129 130 .none (.ref 131) (.ref 132) (.ref 133) 353 354),
 (fF 135 "all_empty" "BeginTable.all_empty" (jm p 16 4) m3),
 (cF 141 "words_of_parts" "BeginTable.words_of_parts" 356 112 3 136 137 .none (.ref 138) (.ref 139) (.ref 140) 362 363),
 (fF 142 "words_of_parts" "BeginTable.words_of_parts" (jm p 16 5) m3),
 (144,⟨.type "dict",none,.dict #[dE P "__module__" 309 (.str "wright.begin_tables" 283),dE P "__firstlineno__" 313 (.int (82) 312),dR P "__init__" 319 107,dR P "find_begins" 331 114,dR P "words_of_part" 339 121,dR P "first_words" 347 128,dR P "all_empty" 355 135,dR P "words_of_parts" 364 142,dR P "__static_attributes__" 369 143,dR P "__dict__" 371 146,dR P "__weakref__" 373 147,dE P "__doc__" 374 (.none)] 4,#[]⟩),
 (145,⟨.type "type",none,.cls ⟨"BeginTable",[.type "object"],[.ref 145,.type "object"],144,"BeginTable",true,[],[],false,none,false⟩,#[none,none,some (.str "BeginTable" 302),some (.str "BeginTable" 310),some (.builtin "object.__new__"),some (.bool true)]⟩),
 (146,⟨.type "getset_descriptor",none,.fields #[.str "__dict__" 370,.ref 145,.builtin "function.__dict__",.builtin "function.__dict__#set"],#[]⟩),
 (147,⟨.type "getset_descriptor",none,.fields #[.str "__weakref__" 372,.ref 145,.builtin "ExceptionGroup.__weakref__",.none],#[]⟩),
 (158,⟨.type "dict",none,.dict #[dE P "__module__" 386 (.str "wright.errors" 377),dE P "__firstlineno__" 390 (.int (115) 389),dR P "__static_attributes__" 391 157,dR P "__weakref__" 393 160,dE P "__doc__" 394 (.none)] 3,#[]⟩),
 (159,⟨.type "type",none,.cls ⟨"WrightError",[.type "ValueError"],[.ref 159,.type "ValueError",.type "Exception",.type "BaseException",.type "object"],158,"WrightError",true,[],[.ref 172,.ref 191,.ref 210,.ref 229,.ref 248,.ref 267],false,none,false⟩,#[some (.ref 150),none,some (.str "WrightError" 379),some (.str "WrightError" 387),some (.builtin "ValueError.__new__"),some (.bool true)]⟩),
 (160,⟨.type "getset_descriptor",none,.fields #[.str "__weakref__" 392,.ref 159,.builtin "ExceptionGroup.__weakref__",.none],#[]⟩),
 (171,⟨.type "dict",none,.dict #[dE P "__module__" 404 (.str "wright.errors" 377),dE P "__firstlineno__" 408 (.int (117) 407),dR P "__static_attributes__" 409 170,dE P "__doc__" 410 (.none)] 2,#[]⟩),
 (172,⟨.type "type",none,.cls ⟨"NoRules",[.ref 159],[.ref 172,.ref 159,.type "ValueError",.type "Exception",.type "BaseException",.type "object"],171,"NoRules",true,[],[],false,none,false⟩,#[some (.ref 163),none,some (.str "NoRules" 397),some (.str "NoRules" 405),some (.builtin "ValueError.__new__"),some (.bool true)]⟩),
 (cF 187 "__init__" "Twice.__init__" 425 121 2 182 183 .none (.ref 184) (.ref 185) (.ref 186) 430 431),
 (fF 188 "__init__" "Twice.__init__" (jm p 20 0) m4),
 (190,⟨.type "dict",none,.dict #[dE P "__module__" 420 (.str "wright.errors" 377),dE P "__firstlineno__" 424 (.int (119) 423),dR P "__init__" 432 188,dR P "__static_attributes__" 434 189,dE P "__doc__" 435 (.none)] 2,#[]⟩),
 (191,⟨.type "type",none,.cls ⟨"Twice",[.ref 159],[.ref 191,.ref 159,.type "ValueError",.type "Exception",.type "BaseException",.type "object"],190,"Twice",true,[],[],false,none,false⟩,#[some (.ref 175),none,some (.str "Twice" 413),some (.str "Twice" 421),some (.builtin "ValueError.__new__"),some (.bool true)]⟩),
 (cF 206 "__init__" "Endless.__init__" 450 126 2 201 202 .none (.ref 203) (.ref 204) (.ref 205) 455 456),
 (fF 207 "__init__" "Endless.__init__" (jm p 21 0) m4),
 (209,⟨.type "dict",none,.dict #[dE P "__module__" 445 (.str "wright.errors" 377),dE P "__firstlineno__" 449 (.int (124) 448),dR P "__init__" 457 207,dR P "__static_attributes__" 459 208,dE P "__doc__" 460 (.none)] 2,#[]⟩),
 (210,⟨.type "type",none,.cls ⟨"Endless",[.ref 159],[.ref 210,.ref 159,.type "ValueError",.type "Exception",.type "BaseException",.type "object"],209,"Endless",true,[],[],false,none,false⟩,#[some (.ref 194),none,some (.str "Endless" 438),some (.str "Endless" 446),some (.builtin "ValueError.__new__"),some (.bool true)]⟩),
 (cF 225 "__init__" "Unmet.__init__" 475 131 2 220 221 .none (.ref 222) (.ref 223) (.ref 224) 480 481),
 (fF 226 "__init__" "Unmet.__init__" (jm p 22 0) m4),
 (228,⟨.type "dict",none,.dict #[dE P "__module__" 470 (.str "wright.errors" 377),dE P "__firstlineno__" 474 (.int (129) 473),dR P "__init__" 482 226,dR P "__static_attributes__" 484 227,dE P "__doc__" 485 (.none)] 2,#[]⟩),
 (229,⟨.type "type",none,.cls ⟨"Unmet",[.ref 159],[.ref 229,.ref 159,.type "ValueError",.type "Exception",.type "BaseException",.type "object"],228,"Unmet",true,[],[],false,none,false⟩,#[some (.ref 213),none,some (.str "Unmet" 463),some (.str "Unmet" 471),some (.builtin "ValueError.__new__"),some (.bool true)]⟩),
 (cF 244 "__init__" "Loop.__init__" 500 136 2 239 240 .none (.ref 241) (.ref 242) (.ref 243) 505 506),
 (fF 245 "__init__" "Loop.__init__" (jm p 23 0) m4),
 (247,⟨.type "dict",none,.dict #[dE P "__module__" 495 (.str "wright.errors" 377),dE P "__firstlineno__" 499 (.int (134) 498),dR P "__init__" 507 245,dR P "__static_attributes__" 509 246,dE P "__doc__" 510 (.none)] 2,#[]⟩),
 (248,⟨.type "type",none,.cls ⟨"Loop",[.ref 159],[.ref 248,.ref 159,.type "ValueError",.type "Exception",.type "BaseException",.type "object"],247,"Loop",true,[],[],false,none,false⟩,#[some (.ref 232),none,some (.str "Loop" 488),some (.str "Loop" 496),some (.builtin "ValueError.__new__"),some (.bool true)]⟩),
 (cF 263 "__init__" "Vast.__init__" 525 141 2 258 259 .none (.ref 260) (.ref 261) (.ref 262) 530 531),
 (fF 264 "__init__" "Vast.__init__" (jm p 24 0) m4),
 (266,⟨.type "dict",none,.dict #[dE P "__module__" 520 (.str "wright.errors" 377),dE P "__firstlineno__" 524 (.int (139) 523),dR P "__init__" 532 264,dR P "__static_attributes__" 534 265,dE P "__doc__" 535 (.none)] 2,#[]⟩),
 (267,⟨.type "type",none,.cls ⟨"Vast",[.ref 159],[.ref 267,.ref 159,.type "ValueError",.type "Exception",.type "BaseException",.type "object"],266,"Vast",true,[],[],false,none,false⟩,#[some (.ref 251),none,some (.str "Vast" 513),some (.str "Vast" 521),some (.builtin "ValueError.__new__"),some (.bool true)]⟩),
 (cF 273 "find_loop" "find_loop" 540 145 1 270 271 .none .none .none (.ref 272) 543 544),
 (fF 274 "find_loop" "find_loop" (top p 26) m5),
 (cF 278 "steps_with_like_rows" "steps_with_like_rows" 546 149 1 275 276 .none .none .none (.ref 277) 549 550),
 (fF 279 "steps_with_like_rows" "steps_with_like_rows" (top p 27) m5),
 (cF 285 "way_back" "way_back" 552 158 3 280 281 .none (.ref 282) (.ref 283) (.ref 284) 565 566),
 (fF 286 "way_back" "way_back" (top p 28) m5),
 (cF 290 "least_sizes" "least_sizes" 570 174 1 287 288 .none .none .none (.ref 289) 573 574),
 (fF 291 "least_sizes" "least_sizes" (top p 30) m6),
 (cF 297 "greatest_empty_sizes" "greatest_empty_sizes" 576 176 1 292 293 .none (.ref 294) (.ref 295) (.ref 296) 580 581),
 (fF 298 "greatest_empty_sizes" "greatest_empty_sizes" (top p 31) m6),
 (cF 302 "settled_sizes" "settled_sizes" 583 178 3 299 300 .none .none .none (.ref 301) 586 587),
 (fF 303 "settled_sizes" "settled_sizes" (top p 32) m6),
 (cF 307 "refuse_faults" "refuse_faults" 593 191 2 304 305 .none .none .none (.ref 306) 596 597),
 (fF 308 "refuse_faults" "refuse_faults" (top p 35) m7),
 (cF 314 "refuse_twice" "refuse_twice" 599 210 1 309 310 .none (.ref 311) (.ref 312) (.ref 313) 607 608),
 (fF 315 "refuse_twice" "refuse_twice" (top p 36) m7),
 (cF 319 "names_met" "names_met" 610 217 1 316 317 .none .none .none (.ref 318) 613 614),
 (fF 320 "names_met" "names_met" (top p 37) m7),
 (cF 324 "least_by_part" "least_by_part" 618 227 1 321 322 .none .none .none (.ref 323) 621 622),
 (fF 325 "least_by_part" "least_by_part" (top p 39) m8),
 (cF 329 "rule_size" "rule_size" 624 235 2 326 327 .none .none .none (.ref 328) 627 628),
 (fF 330 "rule_size" "rule_size" (top p 40) m8),
 (cF 334 "empty_by_name" "empty_by_name" 630 237 2 331 332 .none .none .none (.ref 333) 633 634),
 (fF 335 "empty_by_name" "empty_by_name" (top p 41) m8),
 (cF 346 "__init__" "LeastTrees.__init__" 648 244 3 343 344 .none .none .none (.ref 345) 651 652),
 (fF 347 "__init__" "LeastTrees.__init__" (jm p 42 0) m8),
 (cF 353 "least_of" "LeastTrees.least_of" 654 251 2 348 349 .none (.ref 350) (.ref 351) (.ref 352) 659 660),
 (fF 354 "least_of" "LeastTrees.least_of" (jm p 42 1) m8),
 (cF 360 "hollow_of" "LeastTrees.hollow_of" 662 254 2 355 356 .none (.ref 357) (.ref 358) (.ref 359) 667 668),
 (fF 361 "hollow_of" "LeastTrees.hollow_of" (jm p 42 2) m8),
 (cF 367 "begun_place" "LeastTrees.begun_place" 670 257 3 362 363 .none (.ref 364) (.ref 365) (.ref 366) 676 677),
 (fF 368 "begun_place" "LeastTrees.begun_place" (jm p 42 3) m8),
 (cF 374 "begun_of" "LeastTrees.begun_of" 679 260 4 369 370 .none (.ref 371) (.ref 372) (.ref 373) 686 687),
 (fF 375 "begun_of" "LeastTrees.begun_of" (jm p 42 4) m8),
 (377,⟨.type "dict",none,.dict #[dE P "__module__" 643 (.str "wright.least_trees" 616),dE P "__firstlineno__" 647 (.int (242) 646),dR P "__init__" 653 347,dR P "least_of" 661 354,dR P "hollow_of" 669 361,dR P "begun_place" 678 368,dR P "begun_of" 688 375,dR P "__static_attributes__" 694 376,dR P "__dict__" 696 379,dR P "__weakref__" 698 380,dE P "__doc__" 699 (.none)] 4,#[]⟩),
 (378,⟨.type "type",none,.cls ⟨"LeastTrees",[.type "object"],[.ref 378,.type "object"],377,"LeastTrees",true,[],[],false,none,false⟩,#[none,none,some (.str "LeastTrees" 636),some (.str "LeastTrees" 644),some (.builtin "object.__new__"),some (.bool true)]⟩),
 (379,⟨.type "getset_descriptor",none,.fields #[.str "__dict__" 695,.ref 378,.builtin "function.__dict__",.builtin "function.__dict__#set"],#[]⟩),
 (380,⟨.type "getset_descriptor",none,.fields #[.str "__weakref__" 697,.ref 378,.builtin "ExceptionGroup.__weakref__",.none],#[]⟩),
 (390,⟨.type "tuple",none,.seq #[.none] 0,#[]⟩),
 (cF 396 "__init__" "Grammar.__init__" 716 265 3 391 392 .none (.ref 393) (.ref 394) (.ref 395) 722 723),
 (397,⟨.type "function",none,.func (fnOf "__init__" "Grammar.__init__" (dA (jm p 44 0)) (cv (jm p 44 0)) (ay (jm p 44 0)) (.ref 390) (.none) (.none) (.str "wright.grammars" 702) (none) (.ref 396) (.none)),#[]⟩),
 (cF 403 "start" "Grammar.start" 725 273 1 398 399 .none (.ref 400) (.ref 401) (.ref 402) 729 730),
 (fF 404 "start" "Grammar.start" (jm p 44 1) m9),
 (406,⟨.type "dict",none,.dict #[dE P "__module__" 711 (.str "wright.grammars" 702),dE P "__firstlineno__" 715 (.int (263) 714),dR P "__init__" 724 397,dR P "start" 731 404,dR P "__static_attributes__" 737 405,dR P "__dict__" 739 408,dR P "__weakref__" 741 409,dE P "__doc__" 742 (.none)] 4,#[]⟩),
 (407,⟨.type "type",none,.cls ⟨"Grammar",[.type "object"],[.ref 407,.type "object"],406,"Grammar",true,[],[],false,none,false⟩,#[none,none,some (.str "Grammar" 704),some (.str "Grammar" 712),some (.builtin "object.__new__"),some (.bool true)]⟩),
 (408,⟨.type "getset_descriptor",none,.fields #[.str "__dict__" 738,.ref 407,.builtin "function.__dict__",.builtin "function.__dict__#set"],#[]⟩),
 (409,⟨.type "getset_descriptor",none,.fields #[.str "__weakref__" 740,.ref 407,.builtin "ExceptionGroup.__weakref__",.none],#[]⟩),
 (cF 417 "_law_cell_at" "_law_cell_at" 747 276 2 412 413 .none (.ref 414) (.ref 415) (.ref 416) 752 753),
 (fF 418 "_law_cell_at" "_law_cell_at" (top p 46) mX),
 (cF 422 "_law_names" "_law_names" 755 280 1 419 420 .none .none .none (.ref 421) 758 759),
 (fF 423 "_law_names" "_law_names" (top p 47) mX),
 (cF 429 "_law_words" "_law_words" 761 283 1 424 425 .none (.ref 426) (.ref 427) (.ref 428) 765 766),
 (fF 430 "_law_words" "_law_words" (top p 48) mX),
 (cF 436 "_law_digits" "_law_digits" 768 285 3 431 432 .none (.ref 433) (.ref 434) (.ref 435) 777 778),
 (fF 437 "_law_digits" "_law_digits" (top p 49) mX),
 (cF 443 "_law_skeleton" "_law_skeleton" 780 296 4 438 439 .none (.ref 440) (.ref 441) (.ref 442) 791 792),
 (fF 444 "_law_skeleton" "_law_skeleton" (top p 50) mX),
 (cF 450 "_law_more" "_law_more" 794 307 5 445 446 .none (.ref 447) (.ref 448) (.ref 449) 806 807),
 (fF 451 "_law_more" "_law_more" (top p 51) mX),
 (cF 455 "_law_ended" "_law_ended" 809 314 2 452 453 .none .none .none (.ref 454) 812 813),
 (fF 456 "_law_ended" "_law_ended" (top p 52) mX),
 (cF 460 "_law_good" "_law_good" 815 323 1 457 458 .none .none .none (.ref 459) 818 819),
 (fF 461 "_law_good" "_law_good" (top p 53) mX),
 (cF 467 "_law_grammar" "_law_grammar" 821 345 2 462 463 .none (.ref 464) (.ref 465) (.ref 466) 832 833),
 (fF 468 "_law_grammar" "_law_grammar" (top p 54) mX),
 (cF 472 "_law_least" "_law_least" 835 358 1 469 470 .none .none .none (.ref 471) 838 839),
 (fF 473 "_law_least" "_law_least" (top p 55) mX),
 (cF 479 "_law_tree" "_law_tree" 841 367 5 474 475 .none (.ref 476) (.ref 477) (.ref 478) 853 854),
 (fF 480 "_law_tree" "_law_tree" (top p 56) mX),
 (cF 486 "_law_deeds" "_law_deeds" 856 381 1 481 482 .none (.ref 483) (.ref 484) (.ref 485) 862 863),
 (fF 487 "_law_deeds" "_law_deeds" (top p 57) mX),
 (cF 491 "_law_drawn_tree" "_law_drawn_tree" 865 388 3 488 489 .none .none .none (.ref 490) 868 869),
 (fF 492 "_law_drawn_tree" "_law_drawn_tree" (top p 58) mX),
 (cF 496 "_law_is" "_law_is" 871 394 2 493 494 .none .none .none (.ref 495) 874 875),
 (fF 497 "_law_is" "_law_is" (top p 59) mX),
 (cF 501 "law" "law" 877 402 1 498 499 .none .none .none (.ref 500) 880 881),
 (fF 502 "law" "law" (top p 60) mX)]
def as:List Addr:=[2,3,20,21,25,26,30,31,35,36,42,43,49,50,54,55,61,62,68,69,75,76,82,83,87,88,94,95,106,107,113,114,120,121,127,128,134,135,141,142,144,145,146,147,158,159,160,171,172,187,188,190,191,206,207,209,210,225,226,228,229,244,245,247,248,263,264,266,267,273,274,278,279,285,286,290,291,297,298,302,303,307,308,314,315,319,320,324,325,329,330,334,335,346,347,353,354,360,361,367,368,374,375,377,378,379,380,390,396,397,403,404,406,407,408,409,417,418,422,423,429,430,436,437,443,444,450,451,455,456,460,461,467,468,472,473,479,480,486,487,491,492,496,497,501,502]
def q' (p:Program):Program:=view p [0,2,3,4,5,6,8,9,10,11,12,14,15,16,18,19,20,21,22,23,24,26,27,28,30,31,32,34,35,36,37,39,40,41,42,44,46,47,48,49,50,51,52,53,54,55,56,57,58,59,60]
abbrev loose:List Str:=[]
abbrev steps:Nat:=3915
abbrev bound:Nat:=8810
abbrev Dz:OpenLaw:=PySem.Challenge.rw_wright_k67_trees_of_deeds
noncomputable abbrev K (P:Params):Frag:=K' PySem.Challenge.pw_wright_k67_trees_of_deeds P
theorem Sl (P:Params):as=(K P).map (·.1):=by kernel_rfl
noncomputable abbrev hook:Hook:=kmHook K as Sl [322,293,288]
def pre (h:Dz.row.wellSaid=true->Dz.row.Holds):Dz.Holds:=by
 o_law
 exact h (by assumption)
abbrev Xt:Shared->Bool:=λs=>xlAt (q' PySem.Challenge.pw_wright_k67_trees_of_deeds) [] s && recOk (RowW.records (OpenRow.toRowW (OpenLaw.row PySem.Challenge.rw_wright_k67_trees_of_deeds))) s
def run (w:World)(os:OsState):(FQ (stepT (denote treeTable) PySem.Challenge.pw_wright_k67_trees_of_deeds w) (stepOk 11 (some (.ref 6))) steps ⟨Cw w.params,11,{},Array.mk [],boot_drawn,boot_toks,os⟩ (topStub PySem.Challenge.pw_wright_k67_trees_of_deeds)).map
  (Ft (G3 PySem.Challenge.pw_wright_k67_trees_of_deeds (q' PySem.Challenge.pw_wright_k67_trees_of_deeds) loose Xt (Hook.obs hook) true (boot_heap w.params)))=some (true,openGood (q' PySem.Challenge.pw_wright_k67_trees_of_deeds) loose,Hook.val hook w):=by
 rw [PySem.W.Fast.te10156331382660048174,PySem.W.Fast.te11892475500146522536,PySem.W.Fast.te14364793385576792824,PySem.W.Fast.te6613529449190102663,PySem.W.Fast.te736401713553295146]
 kernel_rfl
theorem size (w:World):((boot_heap w.params).isNs mainGlobals && (Array.mk []:Array GenState).size == 0,(boot_heap w.params).objs.size,(boot_heap w.params).nsMap mainGlobals "__annotations__")=(true,11,some (.ref 6)):=by kernel_rfl
def Gg:∀w:World,(fencedOpening treeTable PySem.Challenge.pw_wright_k67_trees_of_deeds w bound).map (λs=>(s.heap,s.gens,s.drawn,s.toks))=some (boot_heap w.params,Array.mk [],boot_drawn,boot_toks) :=
 boot_open (by kernel_rfl) (by decide +kernel) (λs=>by kernel_rfl)
def left:LeftO (OpenRow.toRowW Dz.row).prog (q' PySem.Challenge.pw_wright_k67_trees_of_deeds) loose Xt (Hook.obs hook) (Hook.val hook) bound:=QF Gg size run (by decide +kernel)
def k_:DefRec:={ name := "law",params:=dA (top PySem.Challenge.pw_wright_k67_trees_of_deeds 60),body:=cv (top PySem.Challenge.pw_wright_k67_trees_of_deeds 60),scope:=ay (top PySem.Challenge.pw_wright_k67_trees_of_deeds 60),pos:=posOf (top PySem.Challenge.pw_wright_k67_trees_of_deeds 60) }
def ok1:defOf (q' PySem.Challenge.pw_wright_k67_trees_of_deeds) Dz.row.name=some (k_,[]):=by kernel_rfl
def ok2:Dz.row.prog.theDef Dz.row.name=some (k_.params,k_.body,k_.scope):=by kernel_rfl
def ok3:kwWritten? k_.params.kwonlyargs k_.params.kw_defaults=some []:=by kernel_rfl
def ok4:(chainsOk (q' PySem.Challenge.pw_wright_k67_trees_of_deeds) && opensWell Dz.row.prog && (frees Dz.row.toRowW && Dz.row.within.isEmpty))=true:=by kernel_rfl
def ok5:k_.params.defaults=[]:=by kernel_rfl
def hold (h:WalkO (q' PySem.Challenge.pw_wright_k67_trees_of_deeds) loose (XL (q' PySem.Challenge.pw_wright_k67_trees_of_deeds) []) (Hook.says hook) Dz.row.toRowW k_ [] λf vs=>PySem.call f vs)(hw:Dz.row.toRowW.promised):Dz.Holds :=
 pre λU6=>holds_open (q:=q' PySem.Challenge.pw_wright_k67_trees_of_deeds) (loose:=loose) (Xt:=Xt) (XP:=XL (q' PySem.Challenge.pw_wright_k67_trees_of_deeds) []) (Yf:=Hook.obs hook) (Ya:=Hook.val hook) (YP:=Hook.says hook) (N:=bound) left (Hook.of hook) (Hook.keeps hook) (λs e=>xl_of s (fj.mp e).1) XL.keeps ok1 ok2 ok3 (λs e=>recFacts_of (fj.mp e).2) rfl U6 ok4 ⟨rfl,rfl,rfl,rfl,rfl,by decide +kernel⟩ hw h
end HD
set_option maxHeartbeats 4000000
namespace L2
open PySem PySem.Spec PyProof.Rows
def Ba {CX:zB}{P:Program}{w:World}{K:a8}{mg:Str->Option Value}{base:Heap}{N:List Str}{qual:Str}{scope:Scope}{f:Addr}{cd:Value}{A:Around}{outer:List Env}{s:Shared}{H:Hp}{E:XK}:(pR CX P w K mg base N qual scope f cd A outer s H E).Dt.K=K:=rfl
def VY {t:TS}{D:Ends}{σ:St}{H:Hp}(h:let E:=D;t E σ H):t D σ H:=h
def VW {t u:TS}{D:Ends}{σ:St}{H:Hp}(h:let E:={ D with nx:=u D };t E σ H):Mh t u D σ H:=h
def QE {t u:TS}{D:Ends}{σ:St}{H:Hp}(h:let E:=D;let F:={ E with nx:=u E };t F σ H):Mh t u D σ H:=h
def VX {g:TG}{x:V}{σ:St}{H:Hp}{t:TS}{D:Ends}(h:let E:=D;g x σ H λσ2 H2=>t E σ2 H2):g x σ H λσ2 H2=>t D σ2 H2:=h
end L2
local macro_rules | `(tactic| nofun) => `(tactic| (dsimp only [L2.Ba];refine L2.VW ?_;intro _))
local macro_rules | `(tactic| ac_rfl) => `(tactic| (refine L2.QE ?_;intro _ _))
local macro_rules | `(tactic| ac_nf0) => `(tactic| (refine L2.VX ?_;intro _))
local macro_rules | `(tactic| ac_nf) => `(tactic| (refine L2.VY ?_;intro _))
set_option maxHeartbeats 0
namespace L2
open PySem PySem.Spec PyProof.Rows
section
variable {κ:Type} [DecidableEq κ]
def bf (kvs:List (κ×V))(k:κ):Option V:=(kvs.find? λkv=>decide (kv.1=k)).map (·.2)
def bK (kvs:List (κ×V))(k:κ)(v:V):List (κ×V) :=
 if (kvs.any λkv=>decide (kv.1=k))=true then kvs.map (λkv=>if kv.1=k then (kv.1,v) else kv) else kvs++[(k,v)]
def LK (kvs:List (κ×V))(k:κ):List (κ×V):=kvs.filter λkv=>decide (kv.1≠k)
def eK {p:κ×V}{r:List (κ×V)}{k:κ}(e:p.1=k):bf (p::r) k=some p.2:=by simp [bf,oV,e]
def eQ {p:κ×V}{r:List (κ×V)}{k:κ}(e:¬p.1=k):bf (p::r) k=bf r k:=by simp [bf,oV,e]
theorem jh (k:κ):∀kvs:List (κ×V),(kvs.any λkv=>decide (kv.1=k))=(bf kvs k).isSome
 | []=>rfl
 | p::r=>by
  rw [qW];by_cases e:p.1=k
  .simp only [eK e,bM e,Bool.true_or,Option.isSome_some]
  rw [eQ e,cU e,Bool.false_or];exact jh k r
theorem xD (k j:κ)(y:V):∀kvs:List (κ×V),bf (kvs.map λkv=>if kv.1=k then (kv.1,y) else kv) j=(bf kvs j).map λx=>if j=k then y else x
 | []=>rfl
 | p::r=>by
  have ih:=xD k j y r;rw [cN];by_cases h:p.1=k
  .rw [ax h];by_cases e:p.1=j
   .rw [eK (p:=(p.1,y)) e,eK e,rg,ax (e.symm.trans h)]
   rw [eQ (p:=(p.1,y)) e,eQ e,ih]
  rw [aw h];by_cases e:p.1=j
  .rw [eK (p:=p) e,eK e,rg,aw (λz=>h (e.trans z))]
  rw [eQ (p:=p) e,eQ e,ih]
theorem uw (k j:κ)(y:V):∀kvs:List (κ×V),bf kvs k=none->bf (kvs++[(k,y)]) j=if j=k then some y else bf kvs j
 | [],_=>by
  by_cases e:k=j
  .rw [ax e.symm];exact eK (p:=(k,y)) e
  rw [aw (λz=>e z.symm)];exact eQ (p:=(k,y)) e
 | p::r,hn=>by
  rw [List.cons_append];have hk:¬p.1=k:=λz=>by rw [eK z] at hn;cases hn
  rw [eQ hk] at hn;have ih:=uw k j y r hn;by_cases e:p.1=j
  .rw [eK e,eK e,aw (λz=>hk (e.trans z))]
  rw [eQ e,eQ e,ih]
def rK (kvs:List (κ×V))(k j:κ)(y:V):bf (bK kvs k y) j=if j=k then some y else bf kvs j:=by
 unfold bK;by_cases a:(kvs.any λkv=>decide (kv.1=k))=true
 .rw [ax a,xD];rw [jh] at a;by_cases e:j=k
  .obtain⟨x,hx⟩:=lW.mp a;rw [ax e,e,hx,rg,ax rfl]
  rw [aw e];cases bf kvs j with
  | none=>rfl
  | some x=>rw [rg,aw e]
 rw [aw a];refine uw k j y kvs ?_;rw [jh] at a;cases q:bf kvs k with
 | none=>rfl
 | some x=>rw [q] at a;exact(a rfl).elim
def fK (kvs:List (κ×V))(k:κ)(v:V):(bK kvs k v).length<=kvs.length+1:=by
 unfold bK
 split
 .rw [av];omega
 rw [bp,dQ,iW];omega
def x8 {kvs:List (κ×V)}{k:κ}(v:V)(h:bf kvs k=none):bK kvs k v=kvs++[(k,v)]:=by
 unfold bK;rw [jh,h];exact aw (by decide)
def jV.jn {o:Option V}{u:Option Value}(r:jV o u):o.isSome=u.isSome:=by
 cases o with
 | none=>cases u with
  | none=>rfl
  | some _=>exact(show False from r).elim
 | some _=>cases u with
  | none=>exact(show False from r).elim
  | some _=>rfl
theorem jV.getD {o:Option V}{u:Option Value}{d:V}{d':Value}(r:jV o u)(rd:RelV d d'):RelV (o.getD d) (u.getD d'):=by
 cases o with
 | none=>cases u with
  | none=>exact rd
  | some _=>exact(show False from r).elim
 | some _=>cases u with
  | none=>exact(show False from r).elim
  | some _=>exact r
def KV.val {kvs:List (κ×V)}{vs:List (κ×Value)}(r:KV kvs vs)(k:κ):jV (bf kvs k) (valueAt vs k):=by
 unfold KV at r
 induction r with
 | nil=>exact True.intro
 | @cons p q ps qs h t ih =>
  obtain⟨h1,h2⟩:=h;by_cases e:p.1=k
  .have e':q.1=k:=h1.symm.trans e;have b:valueAt (q::qs) k=some q.2:=by simp [valueAt,oV,e']
   rw [eK e,b];exact h2
  have e':¬q.1=k:=λz=>e (h1.trans z);have b:valueAt (q::qs) k=valueAt qs k:=by simp [valueAt,oV,e']
  rw [eQ e,b];exact ih
theorem KV.any {kvs:List (κ×V)}{vs:List (κ×Value)}(r:KV kvs vs)(k:κ):(kvs.any λkv=>decide (kv.1=k))=vs.any λkv=>decide (kv.1=k):=by
 unfold KV at r
 induction r with
 | nil=>rfl
 | cons h t ih=>rw [qW,qW,ih,h.1]
def KV.MN {kvs:List (κ×V)}{vs:List (κ×Value)}(r:KV kvs vs)(k:κ){y:V}{u:Value}(ry:RelV y u) :
  KV (kvs.map λkv=>if kv.1=k then (kv.1,y) else kv) (vs.map λkv=>if kv.1=k then (kv.1,u) else kv):=by
 unfold KV at r ⊢
 induction r with
 | nil=>exact .nil
 | @cons p q ps qs h t ih =>
  rw [cN,cN];refine .cons ?_ ih;obtain⟨h1,h2⟩:=h;by_cases e:p.1=k
  .rw [ax e,ax (h1.symm.trans e)];exact⟨h1,ry⟩
  rw [aw e,aw (λz=>e (h1.trans z))];exact⟨h1,h2⟩
def KV.put {kvs:List (κ×V)}{vs:List (κ×Value)}(r:KV kvs vs)(k:κ){y:V}{u:Value}(ry:RelV y u):KV (bK kvs k y) (stored vs k u):=by
 unfold bK stored;rw [r.any k];by_cases e:(vs.any λkv=>decide (kv.1=k))=true
 .rw [ax e,ax e];exact r.MN k ry
 rw [aw e,aw e];exact gW r ⟨rfl,ry⟩
def KV.drop {kvs:List (κ×V)}{vs:List (κ×Value)}(r:KV kvs vs)(k:κ):KV (LK kvs k) (without vs k):=by
 unfold KV at r ⊢;unfold LK without
 induction r with
 | nil=>exact .nil
 | @cons p q ps qs h t ih =>
  obtain⟨h1,h2⟩:=h;rw [vo,vo];by_cases e:p.1=k
  .have a:¬decide (p.1≠k)=true:=by simp [e]
   have b:¬decide (q.1≠k)=true:=by simp [h1.symm.trans e]
   rw [aw a,aw b];exact ih
  have e':¬q.1=k:=λz=>e (h1.trans z);have a:decide (p.1≠k)=true:=by simp [e]
  have b:decide (q.1≠k)=true:=by simp [e']
  rw [ax a,ax b];exact .cons ⟨h1,h2⟩ ih
def KV.keys {kvs:List (κ×V)}{vs:List (κ×Value)}(r:KV kvs vs):kvs.map (·.1)=vs.map (·.1):=by
 unfold KV at r
 induction r with
 | nil=>rfl
 | cons h t ih=>rw [cN,cN,ih,h.1]
theorem KV.length {kvs:List (κ×V)}{vs:List (κ×Value)}(r:KV kvs vs):kvs.length=vs.length:=a_ r
end
def l8 {P:Program}{w:World}{k:aL}{u:Value}(r:RelV (kV k) u):(bh P w).is k u=true:=by
 cases k with
 | inl i=>obtain⟨t,e⟩:=(show ∃t,u=Value.int i t from r);subst e;exact yp P w i t
 | inr x=>obtain⟨t,e⟩:=(show ∃t,u=Value.str x t from r);subst e;exact yo P w x t
theorem uO {P:Program}{w:World}:∀{ks:List aL}{us:List Value},aY (ks.map kV) us->ItemsAre (bh P w) ks us
 | [],_,r=>by rw [ml] at r;cases r;exact .nil
 | k::ks,_,r=>by
  rw [cN] at r;cases r with
  | cons h t=>exact .cons (l8 h) (uO t)
abbrev KT (H:Hp):List (List aL×V)->List (List aL×Addr×Value)->Prop:=Paired λp q=>p.1=q.1/\H q.2.1=some (.tup (p.1.map kV))/\RelV p.2 q.2.2
def KT.val {H:Hp}{kvs:List (List aL×V)}{xs:List (List aL×Addr×Value)}(r:KT H kvs xs)(k:List aL):jV (bf kvs k) ((atKey xs k).map (·.2)):=by
 induction r with
 | nil=>exact True.intro
 | @cons p q ps qs h t ih =>
  obtain⟨h1,_,h2⟩:=h;by_cases e:p.1=k
  .have e':q.1=k:=h1.symm.trans e;have b:atKey (q::qs) k=some q.2:=by simp [atKey,oV,e']
   rw [eK e,b];exact h2
  have e':¬q.1=k:=λz=>e (h1.trans z);have b:atKey (q::qs) k=atKey qs k:=by simp [atKey,oV,e']
  rw [eQ e,b];exact ih
def KT.MN {H:Hp}{kvs:List (List aL×V)}{xs:List (List aL×Addr×Value)}(r:KT H kvs xs)(k:List aL){y:V}{u:Value}(ry:RelV y u) :
  KT H (kvs.map λkv=>if kv.1=k then (kv.1,y) else kv) (xs.map (putAt k u)):=by
 induction r with
 | nil=>exact .nil
 | @cons p q ps qs h t ih =>
  rw [cN,cN];refine .cons ?_ ih;obtain⟨h1,h2,h3⟩:=h;unfold putAt;by_cases e:p.1=k
  .rw [ax e,ax (h1.symm.trans e)];exact⟨h1,h2,ry⟩
  rw [aw e,aw (λz=>e (h1.trans z))];exact⟨h1,h2,h3⟩
def KT.put {H:Hp}{kvs:List (List aL×V)}{xs:List (List aL×Addr×Value)}(r:KT H kvs xs)(k:List aL){b:Addr}{y:V}{u:Value}(hb:H b=some (.tup (k.map kV)))(ry:RelV y u) :
  KT H (bK kvs k y) (storedH xs k b u):=by
 have e:(kvs.any λkv=>decide (kv.1=k))=(atKey xs k).isSome:=by
  rw [jh,(r.val k).jn,o7]
 unfold bK storedH;rw [e];by_cases q:(atKey xs k).isSome=true
 .rw [ax q,ax q];exact r.MN k ry
 rw [aw q,aw q];exact gW r ⟨rfl,hb,ry⟩
def KT.keeps {H H':Hp}{kvs:List (List aL×V)}{xs:List (List aL×Addr×Value)}(r:KT H kvs xs)(ht:∀b ys,H b=some (.tup ys)->H' b=some (.tup ys)):KT H' kvs xs :=
 Paired.eI r λ_ _ z=>⟨z.1,ht _ _ z.2.1,z.2.2⟩
section
variable {P:Program}{w:World}{H:Hp}{h:Heap}{a:Addr}
def K5 {u:HO}(ok:mi P w H h)(e:Rd H a u):cK P w H h a u:=e.ok ok
def oC {kvs:List (aL×V)}(ok:mi P w H h)(e:Rd H a (.dK kvs)):kvs.length<=sizeLine/\(a == sysModules)=false/\∃vs,KV kvs vs/\h.DictOf (bh P w) a vs :=
 show cK P w H h a (.dK kvs) from K5 ok e
def yI {kvs:List (aL×V)}(ok:mi P w H h)(e:H a=some (.dK kvs)):kvs.length<=sizeLine/\(a == sysModules)=false/\∃vs,KV kvs vs/\h.DictOf (bh P w) a vs:=oC ok (.inl e)
def mP {ks:List aL}(ok:mi P w H h)(e:H a=some (.tup (ks.map kV))):(tupleKind (bh P w)).is h ks a:=by
 obtain⟨_,aN,r,o,h1,h2,n,h3⟩:=(show cK P w H h a (.tup (ks.map kV)) from ok a _ e);exact⟨o,aN.toArray,n,h1,h2,h3,by simpa using uO r⟩
def tD {kvs:List (List aL×V)}(ok:mi P w H h)(e:Rd H a (.dT kvs)):kvs.length<=sizeLine/\(a == sysModules)=false /\
  ∃xs,KT H kvs xs/\h.DictOfH (tupleKind (bh P w)) a xs:=by
 obtain⟨z,y,xs,r,o,es,ep,h1,h2,h3,h4,h5⟩:=(show cK P w H h a (.dT kvs) from K5 ok e);refine⟨z,y,xs,r,o,es,ep,h1,h2,h3,h4,λx hx=>?_,h5⟩;have all:∀{l:List (List aL×V)}{m:List (List aL×Addr×Value)},KT H l m->∀x∈m,(tupleKind (bh P w)).is h x.1 x.2.1:=by
  intro l m q
  induction q with
  | nil=>intro x hx;exact nomatch hx
  | @cons p q ps qs hq t ih =>
   intro x hx;rcases bX.mp hx with e | hx
   .subst e;exact mP ok (by rw [<-hq.1];exact hq.2.1)
   exact ih x hx
 exact all r x hx
def Sa {kvs:List (List aL×V)}(ok:mi P w H h)(e:H a=some (.dT kvs)):kvs.length<=sizeLine/\(a == sysModules)=false /\
  ∃xs,KT H kvs xs/\h.DictOfH (tupleKind (bh P w)) a xs:=tD ok (.inl e)
end
def bW (H:Hp)(a:Addr)(y:V)(r:Option V):Prop :=
 (∃kvs k,Rd H a (.dK kvs)/\y=kV k/\r=bf kvs k)\/∃kvs k b,Rd H a (.dT kvs)/\y=.ref b/\H b=some (.tup (k.map kV))/\r=bf kvs k
def pV (H:Hp)(a:Addr)(y v:V)(H':Hp):Prop :=
 (∃kvs k,H a=some (.dK kvs)/\y=kV k/\kvs.length < sizeLine/\H'=upd H a (.dK (bK kvs k v))) \/
 ∃kvs k b,H a=some (.dT kvs)/\y=.ref b/\H b=some (.tup (k.map kV))/\kvs.length < sizeLine/\H'=upd H a (.dT (bK kvs k v))
theorem bW.k {H:Hp}{a:Addr}{kvs:List (aL×V)}{k:aL}(e:H a=some (.dK kvs)):bW H a (kV k) (bf kvs k):=.inl ⟨kvs,k,.inl e,rfl,rfl⟩
def bW.t {H:Hp}{a b:Addr}{kvs:List (List aL×V)}{k:List aL}(e:H a=some (.dT kvs))(eb:H b=some (.tup (k.map kV))):bW H a (.ref b) (bf kvs k):=.inr ⟨kvs,k,b,.inl e,rfl,eb,rfl⟩
theorem pV.k {H:Hp}{a:Addr}{kvs:List (aL×V)}{k:aL}{v:V}(e:H a=some (.dK kvs))(hl:kvs.length < sizeLine):pV H a (kV k) v (upd H a (.dK (bK kvs k v))):=.inl ⟨kvs,k,e,rfl,hl,rfl⟩
def pV.t {H:Hp}{a b:Addr}{kvs:List (List aL×V)}{k:List aL}{v:V}(e:H a=some (.dT kvs))(eb:H b=some (.tup (k.map kV)))(hl:kvs.length < sizeLine) :
  pV H a (.ref b) v (upd H a (.dT (bK kvs k v))):=.inr ⟨kvs,k,b,e,rfl,eb,hl,rfl⟩
section
variable {X:Cx}{ag:List (Addr×Obj)}{σ:St}{H:Hp}{s:Shared}{a:Addr}{y v:V}{u r:Value}{o:Option V}{A:Around}{E:Value->Shared->Prop}
def Inv.big (I:Inv X ag σ H s):sysModules < s.heap.objs.size:=by
 have h:mainGlobals < s.heap.objs.size:=(I.mod.glob.keeps I.bk).lt;exact jA (by decide) h
def Ek {Q:Value->Shared->Prop}(hu:A.units+1 < cLine)(I:Inv X ag σ H s)(g:bW H a y (some v))(ry:RelV y u)(h:∀w' s',Inv X ag σ H s'->RelV v w'->Q w' s') :
  wpAny (model X.prog X.w) A (getItem (.ref a) u) Q E s:=by
 rcases g with ⟨kvs,k,e,ey,l⟩ | ⟨kvs,k,b,e,ey,eb,l⟩
 .subst ey;obtain⟨z,hd,vs,rel,dd⟩:=oC I.bY e;obtain⟨w',hw,Ab⟩:=jV.some_of (v:=v) (o:=valueAt vs k) (by rw [l];exact rel.val k);exact wpAny_getItem_of (l8 ry) dd.mapOf hw (h w' _ (I.tok _) Ab)
 subst ey;cases (show u=Value.ref b from ry);obtain⟨z,hd,xs,rel,dd⟩:=tD I.bY e;obtain⟨w',hw,Ab⟩:=jV.some_of (v:=v) (o:=(atKey xs k).map (·.2)) (by rw [l];exact rel.val k);obtain⟨p,hp,oK⟩:=cf.mp hw;refine wpAny_getItem_heap (o6 hu) (mP I.bY eb) dd hp ?_;rw [oK];exact h w' _ (I.tok _) Ab
def XT {Q:Value->Shared->Prop}(hu:A.units+1 < cLine)(I:Inv X ag σ H s)(g:bW H a y o)(ry:RelV y u)(h:∀s',Inv X ag σ H s'->Q (.bool o.isSome) s') :
  wpAny (model X.prog X.w) A (compareOp .In u (.ref a)) Q E s:=by
 rcases g with ⟨kvs,k,e,ey,l⟩ | ⟨kvs,k,b,e,ey,eb,l⟩
 .subst ey;obtain⟨z,hd,vs,rel,dd⟩:=oC I.bY e;refine wpAny_in_of (l8 ry) hd dd.mapOf ?_;rw [<-(rel.val k).jn,<-l];exact h _ (I.tok _)
 subst ey;cases (show u=Value.ref b from ry);obtain⟨z,hd,xs,rel,dd⟩:=tD I.bY e;refine wpAny_in_heap (o6 hu) (mP I.bY eb) hd dd ?_;have q:=(rel.val k).jn;rw [o7] at q;rw [<-q,<-l];exact h _ (I.tok _)
def Kv {Q:Value->Shared->Prop}(hu:A.units+1 < cLine)(I:Inv X ag σ H s)(g:bW H a y o)(ry:RelV y u)(h:∀s',Inv X ag σ H s'->Q (.bool (!o.isSome)) s') :
  wpAny (model X.prog X.w) A (compareOp .NotIn u (.ref a)) Q E s:=by
 rcases g with ⟨kvs,k,e,ey,l⟩ | ⟨kvs,k,b,e,ey,eb,l⟩
 .subst ey;obtain⟨z,hd,vs,rel,dd⟩:=oC I.bY e;refine wpAny_notIn_of (l8 ry) hd dd.mapOf ?_;rw [<-(rel.val k).jn,<-l];exact h _ (I.tok _)
 subst ey;cases (show u=Value.ref b from ry);obtain⟨z,hd,xs,rel,dd⟩:=tD I.bY e;refine wpAny_notIn_heap (o6 hu) (mP I.bY eb) hd dd ?_;have q:=(rel.val k).jn;rw [o7] at q;rw [<-q,<-l];exact h _ (I.tok _)
def qO {h':Heap}{t':Nat}{ob:HO}(I:Inv X ag σ H s)(mu:Sr (H a))(hs:Heap.SameBut a s.heap h')(he:∃q,h'.get? a=some q)(new:cK X.prog X.w (upd H a ob) h' a ob) :
  Inv X ag σ (upd H a ob) { s with heap:=h',toks:=t' } :=
 I.write (x:=a) (e:=a) mu (.inl rfl) (λb q hb z=>(hs.2 b hb).trans z) he new
def tE {P:Program}{w:World}{H':Hp}{h':Heap}{kvs:List (aL×V)}{vs:List (aL×Value)}(z:kvs.length<=sizeLine)(hd:(a == sysModules)=false)(rel:KV kvs vs)(dd:h'.DictOf (bh P w) a vs) :
  cK P w H' h' a (.dK kvs):=⟨z,hd,vs,rel,dd⟩
def Ej {H':Hp}{Q:Unit->Shared->Prop}(hu:A.units+1 < cLine)(I:Inv X ag σ H s)(g:pV H a y v H')(ry:RelV y u)(rv:RelV v r)(h:∀s',Inv X ag σ H' s'->Q () s') :
  wpAny (model X.prog X.w) A (setItem (.ref a) u r) Q E s:=by
 rcases g with ⟨kvs,k,e,ey,l,eH⟩ | ⟨kvs,k,b,e,ey,eb,l,eH⟩
 .subst ey eH;obtain⟨z,hd,vs,rel,dd⟩:=yI I.bY e;have hz:vs.length<=sizeLine:=by rw [<-rel.length];exact z
  have hl:(bK kvs k v).length<=sizeLine:=by have:=fK kvs k v;omega
  refine wpAny_setItem_pairs (hsz:=hz) (l8 ry) dd λh' IZ hs=>h _ ?_;have he:∃q,h'.get? a=some q:=let ⟨q,_,_,hq,_⟩:=IZ;⟨q,hq⟩;exact qO I (by rw [e];exact True.intro) hs he (tE hl hd (rel.put k rv) IZ)
 subst ey eH;cases (show u=Value.ref b from ry);obtain⟨z,hd,xs,rel,dd⟩:=Sa I.bY e;have hz:xs.length<=sizeLine:=by rw [<-a_ rel];exact z
 have hl:(bK kvs k v).length<=sizeLine:=by have:=fK kvs k v;omega
 refine wpAny_setItem_heap (hsz:=hz) (o6 hu) (mP I.bY eb) dd λh' IZ hs=>h _ ?_;obtain⟨q,es,ep,hq,h2,h3,h4,_,h5⟩:=IZ;refine qO I (by rw [e];exact True.intro) hs ⟨q,hq⟩ ⟨hl,hd,_,(rel.put k eb rv).keeps λc ys ec=>?_,q,es,ep,hq,h2,h3,h4,h5⟩;rw [ai (Qt ec e (λz=>nomatch z))];exact ec
end
section
variable {X:Cx}{ag:List (Addr×Obj)}{σ:St}{H:Hp}{s:Shared}{a:Addr}{kvs:List (aL×V)}{k:aL}{u:Value}{A:Around}{E:Value->Shared->Prop}
def Se {Q:Value->Shared->Prop}(I:Inv X ag σ H s)(e:Rd H a (.dK kvs))(h:∀t s',Inv X ag σ H s'->Q (.int kvs.length t) s'):wpAny (model X.prog X.w) A (call (.builtin "len") [.ref a]) Q E s:=by
 obtain⟨z,hd,vs,rel,dd⟩:=oC I.bY e;refine call_len_dict hd dd (by rw [<-rel.length];rw [sizeLine_eq] at z;omega) ?_;rw [<-rel.length];exact h _ _ (I.tok _)
end
def Sq (i:Expr):Prop:=∀ov iv,subscripted i false ov iv=operate [ov,iv] (getItem ov iv)
def Bz {prog:Program}{w:World}{A:Around}{E:Value->Shared->Prop}{s:Shared}{env:Env}{value slice:Expr}{pos:Pos}{T id:String}{Q:Value->Shared->Prop}
  (hl:typeLookup (.type T) "__getitem__"=pure (some (.builtin id)))(hs:Sq slice)
  (h:wpAny (model prog w) A (eval value env) (λo s₁=>wpAny (model prog w) A (eval slice env) (λi s₂=>s₂.TypeIs o T/\wpAny (model prog w) A (getItem o i) Q E s₂) E s₁) E s) :
  wpAny (model prog w) A (eval (.Subscript value slice pos) env) Q E s:=by
 refine Subscript_ (dB h (λo s₁ h₁=>dB h₁ (λi s₂ h₂=>?_) λ_ _ x=>x) λ_ _ x=>x);obtain⟨hT,h₂⟩:=h₂;unfold subscriptTail;refine aq ?_;rw [getitemInPython_of_ne hT.not_modules];refine aq (wpAny_specialOf hT hl ?_);have fin:wpAny (model prog w) A (subscripted slice false o i) (λr s₃=>wpAny (model prog w) A (letTemporaryGo value o r >>= λ_=>pure r) Q E s₃) E s₂:=by
  rw [hs o i];exact wpAny_operating (dB h₂ (λr s₃ h₃=>aq (wpAny_letTemporaryGo (aH h₃))) λ_ _ x=>x)
 first
  | exact aH (aq fin)
  | exact aq (aH (aq fin))
  | exact aq fin
def yK {X:Cx}{ag:List (Addr×Obj)}{σ:St}{H:Hp}{s:Shared}{a:Addr}{y:V}{o:Option V}(I:Inv X ag σ H s)(g:bW H a y o):s.TypeIs (.ref a) "dict" := by
 rcases g with ⟨kvs,k,e,_,_⟩ | ⟨kvs,k,b,e,_,_,_⟩
 .obtain⟨_,_,vs,_,dd⟩:=oC I.bY e;exact dd.typeIs
 obtain⟨_,_,xs,_,dd⟩:=tD I.bY e;exact dd.typeIs
def Bv (td ty:TE):TE:=λσ H Q=>td σ H λx H1=>ty σ H1 λy H2=>∃a v,x=.ref a/\bW H2 a y (some v)/\Q v H2
def PV (ty td:TE):TE:=λσ H Q=>ty σ H λy H1=>td σ H1 λx H2=>∃a o,x=.ref a/\bW H2 a y o/\Q (.bl o.isSome) H2
def Bu (ty td:TE):TE:=λσ H Q=>ty σ H λy H1=>td σ H1 λx H2=>∃a o,x=.ref a/\bW H2 a y o/\Q (.bl (!o.isSome)) H2
def P7 (td ty tv:TE):TS:=λD σ H=>tv σ H λv H1=>td σ H1 λx H2=>ty σ H2 λy H3=>∃a H4,x=.ref a/\pV H3 a y v H4/\D.nx σ H4
section
variable {X:Cx}{o i e value:Expr}{pos pos' vQ:Pos}{td ty tv:TE}
def eG (hu:X.A.units+1 < cLine)(ho:PE X o td)(hi:PE X i ty)(hs:Sq i):PE X (.Subscript o i pos) (Bv td ty):=by
 intro ag s σ H Q I h;refine Bz PySem.F.slot_dict_getitem.lookup hs (cW (ho ag s σ H _ I h) λu s1 ⟨x,H1,I1,rx,q1⟩=>cW (hi ag s1 σ H1 _ I1 q1) λiv s2 ⟨y,H2,I2,ry,a,v,ex,g,q2⟩=>?_);subst ex;obtain rfl:u=Value.ref a:=rx;exact⟨yK I2 g,Ek hu I2 g ry λw' s3 I3 Ab=>⟨v,H2,I3,Ab,q2⟩⟩
def jb (hu:X.A.units+1 < cLine)(hi:PE X i ty)(ho:PE X o td):PC X .In i o (PV ty td):=by
 intro ag s σ H Q I h;refine cW (hi ag s σ H _ I h) λiv s1 ⟨y,H1,I1,ry,q1⟩=>cW (ho ag s1 σ H1 _ I1 q1) λu s2 ⟨x,H2,I2,rx,a,ov,ex,g,q2⟩=>?_;subst ex;obtain rfl:u=Value.ref a:=rx;exact XT hu I2 g ry λs3 I3=>⟨.bl ov.isSome,H2,I3,rfl,q2⟩
def dW (hu:X.A.units+1 < cLine)(hi:PE X i ty)(ho:PE X o td):PC X .NotIn i o (Bu ty td):=by
 intro ag s σ H Q I h;refine cW (hi ag s σ H _ I h) λiv s1 ⟨y,H1,I1,ry,q1⟩=>cW (ho ag s1 σ H1 _ I1 q1) λu s2 ⟨x,H2,I2,rx,a,ov,ex,g,q2⟩=>?_;subst ex;obtain rfl:u=Value.ref a:=rx;exact Kv hu I2 g ry λs3 I3=>⟨.bl (!ov.isSome),H2,I3,rfl,q2⟩
def iB (hu:X.A.units+1 < cLine)(ho:PE X o td)(hi:PE X i ty)(hv:PE X value tv)(hs:swapsWith value (some (.Subscript o i pos')) pos.line X.env=pure false) :
  PS X (.Assign [.Subscript o i pos'] value pos) (P7 td ty tv):=by
 intro ag s σ H D I h;refine wpAny_Assign_Subscript (cW (hv ag s σ H _ I h) λr s1 ⟨v,H1,I1,rv,q1⟩=>cW (ho ag s1 σ H1 _ I1 q1) λu s2 ⟨x,H2,I2,rx,q2⟩=>cW (hi ag s2 σ H2 _ I2 q2) λiv s3 ⟨y,H3,I3,ry,a,H4,ex,g,q3⟩=>?_) hs;subst ex;obtain rfl:u=Value.ref a:=rx;exact Ej hu I3 g ry rv λs4 I4=>⟨σ,H4,I4,q3⟩
end
def yJ {P:Program}{w:World}{H:Hp}(h:Heap)(hb:sysModules < h.objs.size):cK P w H (h.push { cls:=.type "dict",data:=.dict #[] }) h.objs.size (.dK []) :=
 ⟨fh _,kM.mpr (fk (bD hb)),[],.nil,Heap.DictOf.new h⟩
def Fd:TE:=λ_ H Q=>∀p,H p=none->Q (.ref p) (upd H p (.dK []))
section
variable {X:Cx}{pos:Pos}
def gP:PE X (.Dict [] [] pos) Fd:=λag s σ H Q I h =>
 wpAny_Dict_empty ⟨.ref s.heap.objs.size,_,I.laid (a:=s.heap.objs.size) (o:=.dK []) (t':=s.toks) (λ_ _ q=>bG _ q) (aD _) (yJ s.heap I.big),rfl,h _ (I.bY.fresh (aD _))⟩
end
def zL:List (TE×TE)->St->Hp->(List (V×V)->Hp->Prop)->Prop
 | [],_,H,Q=>Q [] H
 | (tk,tv)::r,σ,H,Q=>tk σ H λx H1=>tv σ H1 λy H2=>zL r σ H2 λps H3=>Q ((x,y)::ps) H3
abbrev VV:List (V×V)->List (Value×Value)->Prop:=Paired λp q=>RelV p.1 q.1/\RelV p.2 q.2
def Uq (X:Cx)(pos:Pos)(keys:List (Option Expr))(values:List Expr)(Jl:List (TE×TE)):Prop :=
 ∀(ag:List (Addr×Obj))(s:Shared)(σ:St)(H:Hp)(Q:List (V×V)->Hp->Prop),Inv X ag σ H s->zL Jl σ H Q ->
  wpAny (model X.prog X.w) X.A (evalPairs (pairTrees keys values X.env pos)) (λvs s'=>∃ps H',Inv X ag σ H' s'/\VV ps vs/\Q ps H') X.xe s
def Jz {X:Cx}{pos:Pos}:Uq X pos [] [] []:=λag s σ H Q I h=>pairTrees_nil_walk ⟨[],H,I,.nil,h⟩
def F4 {X:Cx}{pos:Pos}{k v:Expr}{ks:List (Option Expr)}{vs:List Expr}{tk tv:TE}{Jl:List (TE×TE)}(hk:PE X k tk)(hv:PE X v tv)(hr:Uq X pos ks vs Jl) :
  Uq X pos (some k::ks) (v::vs) ((tk,tv)::Jl):=λag s σ H Q I h =>
 pairTrees_cons_walk (cW (hk ag s σ H _ I h) λu s1 ⟨x,H1,I1,rx,q1⟩=>cW (hv ag s1 σ H1 _ I1 q1) λw2 s2 ⟨y,H2,I2,ry,q2⟩ =>
  cW (hr ag s2 σ H2 _ I2 q2) λws s3 ⟨ps,H3,I3,rel,q3⟩=>⟨(x,y)::ps,H3,I3,.cons ⟨rx,ry⟩ rel,q3⟩)
def mJ (kvs more:List (aL×V)):List (aL×V):=more.foldl (λbH kv=>bK bH kv.1 kv.2) kvs
def KV.merge:∀{more:List (aL×V)}{rs:List (aL×Value)}{kvs:List (aL×V)}{vs:List (aL×Value)},KV more rs->KV kvs vs->KV (mJ kvs more) (merged vs rs):=by
 intro more rs kvs vs r;unfold KV at r
 induction r generalizing kvs vs with
 | nil=>intro q;exact q
 | @cons p q ps qs h t ih =>
  intro r0;have e:KV (bK kvs p.1 p.2) (stored vs q.1 q.2):=by
   have:=r0.put p.1 h.2;rw [<-h.1];exact this
  exact ih e
theorem l7:∀(more kvs:List (aL×V)),(mJ kvs more).length<=kvs.length+more.length
 | [],kvs=>by show kvs.length<=kvs.length+0;omega
 | p::r,kvs=>by
  have h1:=l7 r (bK kvs p.1 p.2);have h2:=fK kvs p.1 p.2;show (mJ (bK kvs p.1 p.2) r).length<=_;rw [dQ];omega
theorem tN {P:Program}{w:World}:∀{kvs:List (aL×V)}{ws:List (Value×Value)},VV (kvs.map λkv=>(kV kv.1,kv.2)) ws->∃rs,Carries (bh P w) ws rs/\KV kvs rs
 | [],_,r=>by rw [ml] at r;cases r;exact⟨[],True.intro,.nil⟩
 | p::kvs,_,r=>by
  rw [cN] at r;cases r with
  | @cons a b as bs h t =>
   obtain⟨rs,c,q⟩:=tN (P:=P) (w:=w) t;obtain⟨b1,b2⟩:=b;exact⟨(p.1,b2)::rs,⟨l8 h.1,rfl,c⟩,.cons ⟨rfl,h.2⟩ q⟩
def PR (Jl:List (TE×TE)):TE:=λσ H Q=>∀p,H p=none->zL Jl σ (upd H p (.dK [])) λps H2=>H2 p=some (.dK [])/\∃kvs:List (aL×V),ps=kvs.map (λkv=>(kV kv.1,kv.2))/\kvs.length<=15/\Q (.ref p) (upd H2 p (.dK (mJ [] kvs)))
def JF {X:Cx}{pos:Pos}{keys:List (Option Expr)}{values:List Expr}{Jl:List (TE×TE)}(h:Uq X pos keys values Jl)(qA:keys.all (·.isSome)=true)(hl:keys.length=values.length)(h0:keys≠[])
  (Xj:keys.length<=15):PE X (.Dict keys values pos) (PR Jl):=by
 intro ag s σ H Q I q;have hn:=I.bY.fresh (aD s.heap.objs.size);have I1:=I.laid (a:=s.heap.objs.size) (o:=.dK []) (h':=s.heap.push { cls:=.type "dict",data:=.dict #[] }) (t':=s.toks) (λ_ _ q=>bG _ q) (aD _) (yJ s.heap I.big);refine wpAny_Dict_walk (knd:=bh X.prog X.w) qA hl h0 Xj (cW (h ag _ σ _ _ I1 (q _ hn)) λws s2 ⟨ps,H2,I2,rel,e,kvs,ep,lk,q2⟩=>?_);subst ep;obtain⟨rs,c,rk⟩:=tN (P:=X.prog) (w:=X.w) rel;obtain⟨z,hd,vs0,r0,dd⟩:=yI I2.bY e;cases r0;refine⟨rs,c,dd,λh' IZ hs=>⟨.ref s.heap.objs.size,_,?_,rfl,q2⟩⟩;have hz:(mJ [] kvs).length<=sizeLine:=by
  have h1:=l7 kvs [];rw [iW] at h1;rw [sizeLine_eq];omega
 have he:∃q,h'.get? s.heap.objs.size=some q:=let ⟨q,_,_,hq,_⟩:=IZ;⟨q,hq⟩;exact qO I2 (by rw [e];exact True.intro) hs he (tE hz hd (rk.merge .nil) IZ)
structure M1 (X:Cx)(o:Expr)(m:Str)(apos:Pos)(e:Expr)(gT:Pos):Prop where
 base:attributeBase o m X.env (eval o X.env)=eval o X.env
 A1:((backTo gT (starEach [e] X.env)).all (λx=>!x.1) && (backToKw gT (keywordEach [] X.env)).all (λx=>x.1.isSome)
  && decide (([e]:List Expr).length+([]:List Keyword).length+(if ([]:List Keyword).isEmpty then 0 else 1) < 30))=true
 line:(apos.endLine == gT.line)=true
 trees:backTo gT (starEach [e] X.env)=[(false,eval e X.env)]
structure M2 (X:Cx)(o:Expr)(m:Str)(apos:Pos)(e f:Expr)(gT:Pos):Prop where
 base:attributeBase o m X.env (eval o X.env)=eval o X.env
 A1:((backTo gT (starEach [e,f] X.env)).all (λx=>!x.1) && (backToKw gT (keywordEach [] X.env)).all (λx=>x.1.isSome)
  && decide (([e,f]:List Expr).length+([]:List Keyword).length+(if ([]:List Keyword).isEmpty then 0 else 1) < 30))=true
 line:(apos.endLine == gT.line)=true
 trees:backTo gT (starEach [e,f] X.env)=[(false,eval e X.env),(false,eval f X.env)]
def Us (H:Hp)(a:Addr):Prop:=(∃kvs,Rd H a (.dK kvs))\/∃kvs,Rd H a (.dT kvs)
def AK {X:Cx}{ag:List (Addr×Obj)}{σ:St}{H:Hp}{s:Shared}{a:Addr}(I:Inv X ag σ H s)(d:Us H a) :
  s.TypeIs (.ref a) "dict" /\ (∀b,Value.ref a=.ref b->∃ob,s.heap.get? b=some ob/\ob.dict=none)/\(a == sysModules)=false:=by
 rcases d with ⟨kvs,e⟩ | ⟨kvs,e⟩
 .obtain⟨_,hd,vs,_,dd⟩:=oC I.bY e;refine⟨dd.typeIs,λb q=>?_,hd⟩;cases q;obtain⟨ob,_,_,h1,h2,_⟩:=dd;exact⟨ob,h1,h2.2.1⟩
 obtain⟨_,hd,xs,_,dd⟩:=tD I.bY e;refine⟨dd.typeIs,λb q=>?_,hd⟩;cases q;obtain⟨ob,_,_,h1,h2,_⟩:=dd;exact⟨ob,h1,h2.2.1⟩
section
variable {X:Cx}{ag:List (Addr×Obj)}{σ:St}{H:Hp}{s:Shared}{a:Addr}{y d:V}{u r:Value}{o:Option V}{A:Around}{E:Value->Shared->Prop}
def Oo {Q:Value->Shared->Prop}(hu:A.units+1 < cLine)(I:Inv X ag σ H s)(g:bW H a y o)(ry:RelV y u)(rd:RelV d r)(h:∀w' s',Inv X ag σ H s'->RelV (o.getD d) w'->Q w' s') :
  wpAny (model X.prog X.w) A (call (.builtin "dict.get") [.ref a,u,r]) Q E s:=by
 rcases g with ⟨kvs,k,e,ey,l⟩ | ⟨kvs,k,b,e,ey,eb,l⟩
 .subst ey;obtain⟨z,hd,vs,rel,dd⟩:=oC I.bY e;refine call_meetsIn PySem.F.slot_dict_get dd.typeIs PySem.F.entry_dict_get (PySem.F.args_dict_get_3 _ _ _) (meets_dict_get_default (bh X.prog X.w) a (l8 ry) hd r) ⟨_,dd.mapOf,h _ _ (I.tok _) ?_⟩;rw [l];exact(rel.val k).getD rd
 subst ey;cases (show u=Value.ref b from ry);obtain⟨z,hd,xs,rel,dd⟩:=tD I.bY e;refine call_meetsIn PySem.F.slot_dict_get dd.typeIs PySem.F.entry_dict_get (PySem.F.args_dict_get_3 _ _ _) (meetsH_dict_get_default (tupleKind (bh X.prog X.w)) a b hd r) ⟨o6 hu,k,xs,mP I.bY eb,dd,h _ _ (I.tok _) ?_⟩;rw [l];exact(rel.val k).getD rd
end
def Fe (td ty tx:TE):TE:=λσ H Q=>td σ H λx H1=>∃a,x=.ref a/\Us H1 a/\ty σ H1 λy H2=>tx σ H2 λz H3=>∃o,bW H3 a y o/\Q (o.getD z) H3
section
variable {X:Cx}{o e f:Expr}{apos gT:Pos}{td ty tx:TE}
def yb (hu:X.A.units+1 < cLine)(ho:PE X o td)(he:PE X e ty)(hf:PE X f tx)(m:M2 X o "get" apos e f gT):PE X (.Call (.Attribute o "get" apos) [e,f] [] gT) (Fe td ty tx):=by
 intro ag s σ H Q I h;refine wpAny_Call_method m.base m.A1 m.line zE PySem.F.slot_dict_get PySem.F.type_dict_get (cW (ho ag s σ H _ I h) λu s1 ⟨x,H1,I1,rx,a,ex,d,q1⟩=>?_);subst ex;obtain rfl:u=Value.ref a:=rx;obtain⟨t1,t2,_⟩:=AK I1 d;refine⟨t1,t2,?_⟩;rw [m.trees];refine rD rfl (vx (pY (cW (he ag s1 σ H1 _ I1 q1) λiv s2 ⟨y,H2,I2,ry,q2⟩ =>
  pY (cW (hf ag s2 σ H2 _ I2 q2) λfv s3 ⟨z,H3,I3,rz,ov,g,q3⟩=>oW ?_))))
 exact Oo hu I3 g ry rz λw' s4 I4 Ab=>⟨_,H3,I4,Ab,q3⟩
end
section
variable {X:Cx}{ag:List (Addr×Obj)}{σ:St}{H:Hp}{s:Shared}{a:Addr}{kvs:List (aL×V)}{A:Around}{E:Value->Shared->Prop}
end
section
variable {X:Cx}{ag:List (Addr×Obj)}{σ:St}{H:Hp}{s:Shared}{a:Addr}{y:V}{u:Value}{A:Around}{E:Value->Shared->Prop}
end
end L2
set_option maxHeartbeats 4000000
namespace L2
open PySem
def wL:typeLookup (.type "list") "keys"=pure none:=by rw [typeLookup_type,vF];kernel_rfl
def wM:typeLookup (.type "list") "__getattr__"=pure none:=by rw [typeLookup_type,vF];kernel_rfl
section
variable {prog:Program}{w:World}{A:Around}{E:Value->Shared->Prop}{h:Heap}{g:Array GenState}{d:Drawn}{t:Nat}{os:OsState}{a:Addr}{o:Obj}
def Fh:isSubtype (.type "AttributeError") (.type "AttributeError")=pure true:=by rw [isSubtype_type];kernel_rfl
def MU {m:Str}{tk:Tok}:ownMembersOf (.type "AttributeError") [.str m tk]=#[unsetMember,unsetMember]:=by kernel_rfl
def HL {m:Str}{tk:Tok}:firstArgMember (.type "AttributeError") [.str m tk]=pure .none:=by kernel_rfl
def Ac {α:Type}{self:Value}{name msg:Str}{Q:α->Shared->Prop}(hm:msg.length<=sizeLine)(hh:A.handled=none)
  (hq:∀h' t' e oe,(∀b o,h.get? b=some o->h'.get? b=some o)->h'.get? e=some oe->oe.cls=.type "AttributeError" -> E (.ref e) ⟨h',g,d,t',os⟩) :
  wpAny (model prog w) A (raiseAttrError self name msg) Q E ⟨h,g,d,t,os⟩:=by
 have f1:=Fh;unfold raiseAttrError newExc;refine aq (wpAny_mkStr ?_ hm);have fe:=HL (m:=msg) (tk:=t);rw [MU]
 repeat (any_goals (first | assumption | wp_step))
 unfold raiseNew;refine aq (wpAny_handled ?_);rw [hh];refine aq (aH ?_);refine wpAny_throw ?_;refine hq _ _ _ _ (λb o q=>?_) (qQ _ (cy _ rfl) rfl) rfl;have lt:=bu q;rw [vH _ _ (by rw [j5];exact jZ (pX lt))];exact bG _ (bG _ q)
def AI {tk:Tok}{aN:Array Value}{n:Nat}{Q:Fin->Shared->Prop}(hx:h.get? a=some { cls:=.type "list",data:=.seq aN n })(hh:A.handled=none)
  (hq:∀h' t' e oe,(∀b o,h.get? b=some o->h'.get? b=some o)->h'.get? e=some oe->oe.cls=.type "AttributeError" -> E (.ref e) ⟨h',g,d,t',os⟩) :
  wpAny (model prog w) A (Builtin.«object.__getattribute__» ⟨[.ref a,.str "keys" tk],[]⟩) Q E ⟨h,g,d,t,os⟩:=by
 have hT:(⟨h,g,d,t,os⟩:Shared).TypeIs (.ref a) "list" := ⟨_,hx,rfl⟩;have f4:=wL
 repeat (any_goals (first | assumption | wp_step))
 exact Ac (by decide +kernel) hh hq
def pI {aN:Array Value}{n:Nat}{Q:Option Value->Shared->Prop}(hx:h.get? a=some { cls:=.type "list",data:=.seq aN n })(hh:A.handled=none)
  (hq:∀h' t',(∀b o,h.get? b=some o->h'.get? b=some o)->Q none ⟨h',g,d,t',os⟩):wpAny (model prog w) A (getAttr? (.ref a) "keys") Q E ⟨h,g,d,t,os⟩:=by
 have hT:∀t',(⟨h,g,d,t',os⟩:Shared).TypeIs (.ref a) "list" := λt'=>⟨_,hx,rfl⟩;have f1:=Fh;have f2:=vM.lookup;have f3:=vM.bind (.ref a);have f4:=wM;unfold getAttr? getAttrBy? getAttrBy;refine aq (wpAny_mkText (aq (oN (iV (aq (jX (hT _) ?_))))));rw [f2];refine aq (aH ?_);show wpAny _ _ (getAttrByItsOwn _ _ _ _ _ _) _ _ _;unfold getAttrByItsOwn;refine aq (aH (a:=none) (aq (oN (iV ?_))));show wpAny _ _ (boundAndCalled _ _ _) _ _ _;unfold boundAndCalled;rw [f3];refine aq (aH (kN (vy vM.plain F.entry_list_ga (vM.check _ _ _ _ _ _ _ _ (hT _) (F.args_list_getattribute_2 _ _) (AI hx hh λh' t' e oe k ee ec=>?_)))));have te:(⟨h',g,d,t',os⟩:Shared).TypeIs (.ref e) "AttributeError" := ⟨oe,ee,ec⟩;show wpAny _ _ (getattributeRaised _ _ _ _ _ _ _) _ _ _;unfold getattributeRaised;refine aq (q9 te f1 ?_);rw [ax rfl];show wpAny _ _ (typeLookup _ _ >>= _) _ _ _;rw [f4];refine aq (aH ?_);show wpAny _ _ (throw _) _ _ _;refine wpAny_throw ?_;refine aq (q9 te f1 ?_);rw [ax rfl];exact aH (hq h' t' k)
end
def fP:plainId "dict.update.loop"=true:=by decide +kernel
def lL:entryFor table "dict.update.loop"=some Builtin.«dict.update.loop»:=entryFor_of_tree (by kernel_rfl)
section
variable {prog:Program}{w:World}{K:Type} [DecidableEq K] {knd:KeyKind prog w K}{A:Around}{E:Value->Shared->Prop}
def mW (knd:KeyKind prog w K)(h:Heap)(u:Value)(kv:K×Value):Prop :=
 ∃t key n o,u=.ref t/\knd.is kv.1 key=true/\h.get? t=some o/\o.cls=.type "tuple" /\ o.data=.seq #[key,kv.2] n
def mW.keep {h h':Heap}{u:Value}{kv:K×Value}(p:mW knd h u kv)(k:∀b o,o.cls=.type "tuple" -> h.get? b=some o->h'.get? b=some o):mW knd h' u kv :=
 let ⟨t,key,n,o,a,b,c,d,e⟩:=p;⟨t,key,n,o,a,b,k t o d c,d,e⟩
def HW {R:Result->Shared->Prop}{d it l:Addr}{items:Array Value}(hh:A.handled=none):∀(more:List (K×Value)) (i:Nat)(s:Shared)(kvs:List (K×Value)) (j:Int)(tk:Tok),items.size=i+more.length ->
  s.heap.DictOf knd d kvs->s.heap.IsListIter it l i->s.heap.IsList l items->(∀m kv,more[m]?=some kv->∃u,items[i+m]?=some u/\mW knd s.heap u kv)->kvs.length+more.length<=sizeLine ->
  (∀h' t',h'.DictOf knd d (more.foldl (λa p=>stored a p.1 p.2) kvs)->(∀b o,b≠d->b≠it->s.heap.get? b=some o->h'.get? b=some o)->R (.ok (.ret .none)) { s with heap:=h',toks:=t' }) ->
  codeAny (model prog w) A (.builtin "dict.update.loop" ⟨[.ref d,.ref it,.int j tk,.none],[]⟩) R s:=by
 intro more
 induction more with
 | nil =>
  intro i s kvs j tk hi hd hit hl hp hz hR;refine kK lL ?_;rw [lV fP _];unfold Builtin.«dict.update.loop»;have hs:items[i]?=none:=vL (by rw [hi];exact aD _);refine aq (vG hh hit hl hs λh1 eb=>?_);have nd:d≠it:=λz=>by
   obtain⟨o,_,_,q,_,c,_⟩:=hd;obtain⟨o',q',_,c'⟩:=hit;rw [z,q'] at q;cases q;rw [c'] at c;cases c
  show wpAny _ _ (Builtin.Dict.addKeywords d [] >>= _) _ _ _;exact aq (aH (aH (hR h1 s.toks (hd.extBut eb nd) λb o n1 n2 q=>eb b o n2 q)))
 | cons kv more ih =>
  intro i s kvs j tk hi hd hit hl hp hz hR;refine kK lL ?_;rw [lV fP _];unfold Builtin.«dict.update.loop»;obtain⟨u,hu,t,key,n,o,rfl,hk,ho,hc,Cf⟩:=hp 0 kv rfl;refine aq (wpAny_pyNext_list_item hit hl hu λh1 Wa sb=>?_);have nd:d≠it:=λz=>by
   obtain⟨o,_,_,q,_,c,_⟩:=hd;obtain⟨o',q',_,c'⟩:=hit;rw [z,q'] at q;cases q;rw [c'] at c;cases c
  have n2:∀b o,(o.cls=.type "tuple" \/ o.cls=.type "list")->s.heap.get? b=some o->b≠d/\b≠it:=by
   intro b o c q;constructor
   .intro z;obtain⟨o',q',c'⟩:=hd.typeIs;rw [z,q'] at q;cases q;rw [c'] at c;rcases c with c | c <;> exact absurd c (by decide)
   intro z;obtain⟨o',q',c',_⟩:=hit;rw [z,q'] at q;cases q;rw [c'] at c;rcases c with c | c <;> exact absurd c (by decide)
  have nt:∀b o,o.cls=.type "tuple" -> s.heap.get? b=some o->b≠d/\b≠it:=λb o c q=>n2 b o (.inl c) q;have nl:l≠d/\l≠it:=by
   obtain⟨o,q,c,_⟩:=hl;exact n2 l o (.inr c) q
  have ES:h1.get? t=some o:=(sb.2 t (nt t o hc ho).2).trans ho;have uT:h1.DictOf knd d kvs:=hd.sameBut sb nd;refine aq (iV (aq (wpAny_tryCatch ?_)));unfold Builtin.Dict.pairItems;refine aq (jX (T := "tuple") ⟨o,ES,hc⟩ ?_);rw [ax (by decide)];refine aq (mq ES Cf (aH ?_));show wpAny _ _ (holding [key,kv.2] (dictSet d key kv.2)) _ _ _;rw [dQ] at hz hi;refine iV (wpAny_dictSet_pairs (s:={ s with heap:=h1 }) hk uT (λh2 hd2 P6=>?_) (by omega));have kk:∀b o,b≠d->b≠it->s.heap.get? b=some o->h2.get? b=some o:=λb o n1 n2 q=>(P6.2 b n1).trans ((sb.2 b n2).trans q);have ln:(stored kvs kv.1 kv.2).length<=kvs.length+1:=by
   unfold stored
   split
   .simp
   simp
  refine aH ⟨i8 fP _,ih (i+1) _ _ _ _ (by omega) hd2 (Wa.at λo q=>(P6.2 it (fk nd)).trans q) (hl.at λo q=>kk l o nl.1 nl.2 q) (λm V0 e=>?_) (by omega) λh3 t3 je k3=>?_⟩
  .obtain⟨u',e1,e2⟩:=hp (m+1) V0 e;exact⟨u',by rw [<-e1];congr 1;omega,e2.keep λb o c q=>kk b o (nt b o c q).1 (nt b o c q).2 q⟩
  exact hR h3 t3 je λb o n1 n2 q=>k3 b o n1 n2 (kk b o n1 n2 q)
def zN:(Value.type "list" != Value.type "dict")=true:=by decide
def tO {s:Shared}{l:Addr}{items:Array Value}{n:Nat}{more:List (K×Value)}{Q:Value->Shared->Prop}(knd:KeyKind prog w K)(hh:A.handled=none)(hx:s.heap.get? l=some { cls:=.type "list",data:=.seq items n })
  (hi:items.size=more.length)(hp:∀(m:Nat) kv,more[m]?=some kv->∃u,items[m]?=some u/\mW knd s.heap u kv)(hz:more.length<=sizeLine)
  (h:∀h' t',h'.DictOf knd s.heap.objs.size (more.foldl (λa p=>stored a p.1 p.2) [])->(∀b o,s.heap.get? b=some o->h'.get? b=some o)->Q (.ref s.heap.objs.size) { s with heap:=h',toks:=t' }) :
  wpAny (model prog w) A (call (.type "dict") [.ref l]) Q E s:=by
 refine callType_codes (Q₁:=λobj s₁=>obj=.ref s.heap.objs.size/\s₁={ s with heap:=s.heap.push { cls:=.type "dict",data:=.dict #[] } }) F.kt_called_dict (F.kt_typeCall_dict_1 _) F.entry_dict_init (kt_code_dict_new _ ⟨rfl,rfl⟩) ?_;rintro obj s₁ ⟨rfl,rfl⟩;have Ax:(s.heap.push { cls:=.type "dict",data:=.dict #[] }).DictOf knd s.heap.objs.size []:=Heap.DictOf.new s.heap;have l0:=bG { cls:=.type "dict",data:=.dict #[] } hx;refine⟨Ax.typeIs,F.args_dict_init_2 _ _,?_⟩;unfold Builtin.«dict.__init__» Builtin.Dict.selfAndRest;refine aq (aq (wpAny_notOrdered_dict Ax.typeIs (aH ?_)));show wpAny _ _ (Builtin.Dict.updateFrom "dict.__init__" s.heap.objs.size (.ref l) [] .none) _ _ _;unfold Builtin.Dict.updateFrom;refine aq (jX (T := "list") ⟨_,l0,rfl⟩ ?_);rw [ax zN];refine aq (pI l0 hh λh1 t1 k1=>?_);refine aq (ik ?_);have l1:=k1 _ _ l0;refine aq (mw ⟨_,l1,rfl,_,rfl⟩ ?_);have k2:∀b o,s.heap.get? b=some o->(h1.push { cls:=.type "list_iterator",data:=.fields #[.ref l,.int 0 0] }).get? b=some o:=λb o q=>bG _ (k1 _ _ (bG _ q));refine aH ⟨i8 fP _,HW (knd:=knd) (A:=A.in1) (l:=l) (items:=items) (show A.in1.handled=none from hh) more 0 _ [] _ _ (by rw [hi,oO]) ?_ ⟨_,cy _ rfl,rfl,rfl⟩ ⟨_,k2 _ _ hx,rfl,n,rfl⟩ (λm kv e=>?_) (by simpa using hz) λh' t' hd k3=>?_⟩
 .obtain⟨o,es,ep,q,r⟩:=Ax;exact⟨o,es,ep,bG _ (k1 _ _ q),r⟩
 .obtain⟨u,e1,e2⟩:=hp m kv e;exact⟨u,by rw [oO];exact e1,e2.keep λb o _ q=>k2 b o q⟩
 refine⟨rfl,h h' t' hd λb o q=>k3 b o (bD (bu q)) ?_ (k2 b o q)⟩;have:=bu (k1 _ _ (bG { cls:=.type "dict",data:=.dict #[] } q));exact bD this
end
open PySem PySem.Spec PyProof.Rows
def EE (X:Cx)(ifs:List Expr)(t:TT):Prop :=
 ∀(ag:List (Addr×Obj))(s:Shared)(σ:St)(H:Hp)(Q:Bool->Hp->Prop),Inv X ag σ H s->t σ H Q ->
  wpAny (model X.prog X.w) X.A (forIn ifs true λc r=>if r=true then do let ok <-isTrue c X.env (eval c X.env);pure (ForInStep.yield ok) else pure (ForInStep.yield r)) (TP X ag σ Q) X.xe s
def hV:TT:=λ_ H Q=>Q true H
def bO {X:Cx}:EE X [] hV:=λ_ _ _ H _ I h=>wpAny_tests_nil ⟨H,I,h⟩
def hJ {X:Cx}{c:Expr}{t:TT}(h:PT X c t):EE X [c] t:=λag s σ H Q I hw=>wpAny_tests_one (h ag s σ H Q I hw)
def qm {prog:Program}{w:World}{A:Around}{R:Result->Shared->Prop}{s:Shared}{elt target iter:Expr}{ifs:List Expr}{scope:Scope}{pos:Pos}{it bH:Value}{env:Env}(I:Nat->Shared->Prop)
  (turn:∀n s,I n s->wpAny (model prog w) A (pyNext it) (λr s₁=>match r with
   | none=>R (.ok .next) s₁
   | some v=>wpAny (model prog w) A (letOwnedTupleGo target it v) (λ_ s₁=>wpAny (model prog w) A (assign target env v) (λ_ s₂ =>
     wpAny (model prog w) A (forIn ifs true λc r=>if r=true then do let ok <-isTrue c env (eval c env);pure (ForInStep.yield ok) else pure (ForInStep.yield r)) (λok s₃ =>
      if ok=true then wpAny (model prog w) A (eval elt env) (λx s₄ =>
       wpAny (model prog w) A (call (.builtin "list.append") [bH,x]) (λ_ s₅=>∃m,m < n/\I m s₅) (λ_ _=>False) s₄) (λ_ _=>False) s₃
      else ∃m,m < n/\I m s₃) (λ_ _=>False) s₂) (λ_ _=>False) s₁) (λ_ _=>False) s₁) (λ_ _=>False) s)
  (n:Nat)(h:I n s) :
  codeAny (model prog w) A (.compLoop (.ListComp elt [⟨target,iter,ifs,0⟩] scope pos) 0 it bH env) R s:=by
 refine codeAny_loop rfl I (λn s hI=>?_) n h;show wpAny _ A ((compTurn (.ListComp elt [⟨target,iter,ifs,0⟩] scope pos) 0 it bH env).onRaise (λx=>do noteFrame x env;theTreesLotGoes x)) _ _ s;refine wpAny_noted ?_;rw [compTurn_list];refine aq (wpAny_standAt (aq (dB (turn n s hI) (λr s₁ h₁=>?_) λ_ _ h'=>h'.elim)));cases r with
 | none=>exact aH h₁
 | some v =>
  refine aq (dB h₁ (λ_ s₂ h₂=>?_) λ_ _ h'=>h'.elim);refine aq (dB h₂ (λ_ s₂ h₂=>aq (dB h₂ (λok s₃ h₃=>?_) λ_ _ h'=>h'.elim)) λ_ _ h'=>h'.elim);cases ok with
  | false=>exact aH ⟨rfl,h₃⟩
  | true =>
   exact aq (aq (dB h₃ (λx s₄ h₄=>aq (dB h₄ (λ_ s₅ h₅=>aH (aH ⟨rfl,h₅⟩)) λ_ _ h'=>h'.elim)) λ_ _ h'=>h'.elim))
inductive zh (K:a8)(H:Hp):V->String->Prop where
 | bl (x:Bool):zh K H (.bl x) "bool"
 | int (i:Int):zh K H (.int i) "int"
 | str (x:Str):zh K H (.str x) "str"
 | tup {a:Addr}{xs:List V}(e:aR K H a xs):zh K H (.ref a) "tuple"
def cJ {X:Cx}:ig X (.builtin "isinstance") (λxs H Q=>∃x T n b,xs=[x,.ty n]/\zh X.K H x T/\PySem.W.kitOne X.K (.type T) (.type n)=some b/\Q (.bl b) H):=by
 intro ag s σ H xs us Q I r h;obtain⟨x,T,n,b,rfl,ty,e,q⟩:=h;obtain⟨u,w',rfl,rx,rn⟩:=vals2 r;cases (show w'=Value.type n from rn);have fin:∀tk,EP X ag σ Q (.bool b) { s with toks:=tk }:=λtk=>⟨.bl b,H,I.tok _,rfl,q⟩;cases ty with
 | bl y=>cases (show u=Value.bool y from rx);exact PySem.W.kia_one PySem.W.kitx_bool I.wU True.intro e (λz=>nomatch z) fin
 | int i=>obtain⟨t,z⟩:=(show ∃t,u=Value.int i t from rx);cases z;exact PySem.W.kia_one PySem.W.kitx_int I.wU True.intro e (λz=>nomatch z) fin
 | str y=>obtain⟨t,z⟩:=(show ∃t,u=Value.str y t from rx);cases z;exact PySem.W.kia_one PySem.W.kitx_str I.wU True.intro e (λz=>nomatch z) fin
 | @tup a ys hq =>
  cases (show u=Value.ref a from rx);obtain⟨aN,_,⟨o,h1,h2,_⟩,_⟩:=I.tuple hq;exact PySem.W.kia_one PySem.W.kitx_tuple I.wU ⟨o,h1,h2⟩ e (λz=>nomatch z) fin
def C8 {X:Cx}{a:Expr}{ta:TE}(K:a8)(ha:PE X a ta)(he:∀whole,isTrue a X.env whole=(do let v <-whole;standAt a.pos;holding [v] (truthy v)))(hK:X.K=K:=by rfl) :
  PT X a (λσ H Q=>ta σ H λx H'=>∃k,Io K x H' k/\Q k H'):=by
 subst hK;exact iK ha he
def Df {X:Cx}(hu:X.A.units < cLine):kx X (compareOp .Eq) (λx y H Q=>∃a b xs,x=.ref a/\y=.ref b/\aG X.K H a xs/\aG X.K H b []/\Q (.bl (xs.isEmpty)) H):=by
 intro ag s σ H x y v u Q I rx ry h;obtain⟨a,b,xs,rfl,rfl,ha,hb,q⟩:=h;cases rx;cases ry;obtain⟨aN,r,pl,hz⟩:=I.list ha;obtain⟨d6,r2,zp,We⟩:=I.list hb;have e2:d6=[]:=aY.zero r2;subst e2;have br:=r.length;cases xs with
 | nil =>
  have e:aN=[]:=aY.zero r;subst e;refine SeqAt.eq_listAt (e:=λ_=>true) pl.isList zp.isList rfl hu (λj h1 _=>absurd h1 (by simp)) ⟨.bl true,H,I,rfl,q⟩
 | cons y ys =>
  refine SeqAt.eq_list_lengthsAt pl.isList zp.isList ?_ hu ⟨.bl false,H,I,rfl,q⟩;rw [bN,bN,<-br];simp
structure KN (env:Env)(scope:Scope)(cl:List (Str×Addr)):Prop where
 eq:closureFor scope env=pure cl
 sub:∀y c,cl.lookup y=some c->env.cells.lookup y=some c
 all:∀y,(y,NameKind.free)∈scope.names->∃c,cl.lookup y=some c
def jR {y n:Str}{c:Addr}{l:List (Str×Addr)}:((n,c)::l).lookup y=if y=n then some c else l.lookup y:=by
 by_cases h:y=n
 .rw [ax h];simp [List.lookup,h]
 rw [aw h];simp [List.lookup,kM.mpr h]
def xf {env:Env}{scope:Scope}(h:∀y,(y,NameKind.free)∈scope.names->∃c,env.cells.lookup y=some c):∃cl,KN env scope cl:=by
 have go:∀(names:List (Str×NameKind))(bH:List (Str×Addr)),(∀y,(y,NameKind.free)∈names->∃c,env.cells.lookup y=some c)->(∀y c,bH.lookup y=some c->env.cells.lookup y=some c) ->
   ∃cl,(forIn names bH λ(x:Str×NameKind)(cs:List (Str×Addr))=>(if x.2 == .free then do let c <-cellOf env x.1;pure (ForInStep.yield ((x.1,c)::cs)) else pure (ForInStep.yield cs):Sem (ForInStep (List (Str×Addr)))))=pure cl /\
    (∀y c,cl.lookup y=some c->env.cells.lookup y=some c)/\(∀y,(y,NameKind.free)∈names->∃c,cl.lookup y=some c)/\∀y c,bH.lookup y=some c->∃c',cl.lookup y=some c':=by
  intro names
  induction names with
  | nil=>intro bH _ hs;exact⟨bH,rfl,hs,λy hy=>absurd hy (by simp),λy c e=>⟨c,e⟩⟩
  | cons x r ih =>
   intro bH hf hs;obtain⟨n,k⟩:=x;rw [List.forIn_cons];by_cases hk:k=.free
   .subst hk;obtain⟨c0,e0⟩:=hf n cI;obtain⟨cl,e1,e2,e3,e4⟩:=ih ((n,c0)::bH) (λy hy=>hf y (cV _ hy)) (λy c e=>by
     rw [jR] at e;by_cases z:y=n
     .rw [ax z] at e;cases e;rw [z];exact e0
     rw [aw z] at e;exact hs y c e)
    refine⟨cl,?_,e2,λy hy=>?_,λy c e=>?_⟩
    .rw [<-e1];have:cellOf env n=pure c0:=by unfold cellOf;rw [e0]
     simp only [this];rfl
    .rcases bX.mp hy with z | z
     .cases z;exact e4 n c0 (by rw [jR,ax rfl])
     exact e3 y z
    by_cases z:y=n
    .exact e4 y c0 (by rw [jR,ax z])
    exact e4 y c (by rw [jR,aw z];exact e)
   obtain⟨cl,e1,e2,e3,e4⟩:=ih bH (λy hy=>hf y (cV _ hy)) hs;refine⟨cl,?_,e2,λy hy=>?_,e4⟩
   .rw [<-e1];have:(k == NameKind.free)=false:=by simpa using hk
    simp only [this];rfl
   rcases bX.mp hy with z | z
   .cases z;exact absurd rfl hk
   exact e3 y z
 obtain⟨cl,e1,e2,e3,_⟩:=go scope.names [] h (λy c e=>by simp at e);refine⟨cl,?_,e2,e3⟩;unfold closureFor;exact Eq.trans (congrArg (λt:Sem (List (Str×Addr))=>t >>= λcs=>pure cs) e1) rfl
def wB {scope:Scope}{env:Env}{y:Str}(hk:env.scope.kind=.function)(hy:scope.names.lookup y=some .free)(he:env.kindOf y=some .cell):(relabel scope env).names.lookup y=some .cell:=by
 have go:∀l:List (Str×NameKind),l.lookup y=some .free->(l.map λ(x:Str×NameKind)=>if (x.2 == NameKind.free && env.scope.kind == .function && env.kindOf x.1 == some .cell) then (x.1,NameKind.cell) else (x.1,x.2)).lookup y=some .cell:=by
  intro l
  induction l with
  | nil=>intro z;cases z
  | cons x r ih =>
   obtain⟨n,k⟩:=x;intro hy;rw [cN];by_cases z:y=n
   .subst z;simp [List.lookup] at hy;subst hy;simp [List.lookup,hk,he]
   have zb:(y == n)=false:=kM.mpr z;simp only [List.lookup,zb] at hy;have:=ih hy;dsimp only
   split <;> simp only [List.lookup,zb] <;> exact this
 exact go _ hy
theorem wK {α:Type}{y:Str}{v:α}:∀{l:List (Str×α)},l.lookup y=some v->(y,v)∈l
 | [],h=>by cases h
 | (n,u)::r,h=>by
  by_cases z:y=n
  .subst z;simp [List.lookup] at h;subst h;exact cI
  have zb:(y == n)=false:=kM.mpr z;simp only [List.lookup,zb] at h;exact cV _ (wK h)
def nX {scope:Scope}{env:Env}{y:Str}{k:NameKind}(h:(relabel scope env).names.lookup y=some k)(hk:k=.cell\/k=.free)(hc:∀z∈scope.names,z.2≠.cell):(y,NameKind.free)∈scope.names:=by
 have m:=wK h;unfold relabel at m;obtain⟨⟨n,k'⟩,m1,m2⟩:=cx.mp m;dsimp only at m2
 split at m2
 .rename_i q
  cases m2;simp at q;obtain⟨⟨q,_⟩,_⟩:=q;subst q;exact m1
 cases m2;rcases hk with hk | hk
 .exact absurd hk (hc _ m1)
 rw [<-hk];exact m1
def tG (X:Cx)(scope:Scope)(cl:List (Str×Addr))(C:Addr)(s1:Shared)(H1:Hp) (N:List Str)(fp:List Addr):Cx :=
 { X with N:=N,s₀:=s1,H₀:=H1,env:=compEnvC scope cl C X.env,outer:=X.stack,stack:=X.stack,ex:=fp,fn:=λ_=>false,pn:=[],xe:=λ_ _=>False }
structure KO (X:Cx)(scope:Scope)(js:List (Nat×Str)):Prop where
 at_:∀p∈js,X.N[p.1]?=some p.2/\X.env.scope.names.lookup p.2=some .cell/\scope.names.lookup p.2=some .free
 all:∀y,(y,NameKind.free)∈scope.names->X.env.scope.names.lookup y=some .cell
def dN (ts:List Str)(js:List (Nat×Str))(σ:St):St:=ts.map (λ_=>none)++js.map λp=>(σ[p.1]?).join
def uQ {X:Cx}{ag:List (Addr×Obj)}{σ:St}{H:Hp}{s1 s4:Shared}{scope:Scope}{ts:List Str}{js:List (Nat×Str)}{cl:List (Str×Addr)}{fp:List Addr}{C:Addr}{m:Str->Option Value}
  (I:Inv X ag σ H s1)(hf:∀b∈fp,xp X ag H b)(Hr:∀b∈fp,b < s1.heap.objs.size)(jo:scope.kind=.function)(jq:∀y∈scope.names,y.2≠.cell)(cp:KO X scope js)(mZ:KN X.env scope cl)
  (hC:s1.heap.objs.size < C)(ho:s4.os=s1.os)(hg:s4.gens=s1.gens)(old:∀b o,s1.heap.get? b=some o->s4.heap.get? b=some o)(hn:s4.heap.Ns C m)
  (hD:s4.heap.get? s1.heap.objs.size=some { cls:=.type "list",data:=.seq ([]:List Value).toArray 0 }) :
  Inv (tG X scope cl C s1 H (ts++js.map (·.2)) fp) [] (dN ts js σ) (upd H s1.heap.objs.size (.lst [])) s4:=by
 have xk:X.env.scope.kind=.function:=I.ok.kind;have has:∀y,((relabel scope X.env).names.lookup y=some .cell\/(relabel scope X.env).names.lookup y=some .free)->∃c,cl.lookup y=some c:=λy hy=>mZ.all y (by
  rcases hy with hy | hy
  .exact nX hy (.inl rfl) jq
  exact nX hy (.inr rfl) jq)
 have lt:∀y c,cl.lookup y=some c->c < s1.heap.objs.size:=λy c e=>by
  obtain⟨v,o,ho,_⟩:=I.cell y c (mZ.sub y c e);exact bu ho
 refine⟨⟨I.ok.mod,jo,I.ok.glob,I.ok.blt,i7 hC,λy z c h1 h2=>I.ok.inj y z c (mZ.sub _ _ h1) (mZ.sub _ _ h2),has,λy c h _=>absurd (show false=true from h) cZ,I.ok.hd,I.ok.frames,.inl rfl,
   λb hb=>⟨bD (jA (Hr b hb) hC),λy c h=>(hf b hb).2.2.2.2.1 y c (mZ.sub _ _ h)⟩,I.bs,dH I.ok.Jb I.sz,λb o e hb=>?_,λb hb=>?_,I.stack,I.BE⟩,
  ho,?_,Un.laid old (aD _) I.fresh,⟨m,hn,λi y v e1 e2 _=>?_⟩,λy c h=>?_,?_,λy c h=>?_,λp hp=>absurd (show p∈([]:List (Addr×Obj)) from hp) (by simp),I.bY.laid old (aD _) ?_,?_⟩
 .obtain⟨_,_,_,h4,_⟩:=hf b hb;rcases h4 with h4 | h4
  .exact I.ok.GO b o e h4
  exact absurd (gr (bu (I.ok.bs b o e).1) h4) (jB _)
 .intro IQ;obtain⟨_,h2,h3,_⟩:=hf b hb;rcases bX.mp (I.zO b IQ) with z | z
  .exact h2 z
  exact h3 z
 .rw [hg];exact I.bare
 .have Ko:(ts++js.map (·.2))[i]?=some y:=e1;have Eg:(ts.map (λ_=>(none:Option V))++js.map λp=>(σ[p.1]?).join)[i]?=some (some v):=e2;by_cases hi:i < ts.length
  .rw [qb (by simpa using hi)] at Eg;simp [hi] at Eg
  rw [nu (by omega)] at Ko;rw [nu (by simpa using Nat.le_of_not_lt hi)] at Eg;rw [av] at Eg;rw [bo] at Ko Eg;cases hj:js[i - ts.length]? with
  | none=>rw [hj] at Ko;cases Ko
  | some p =>
   rw [hj] at Ko Eg;simp only [rg,Option.some.injEq] at Ko Eg;obtain⟨a1,a2,a3⟩:=cp.at_ p (bZ hj);subst Ko;have es:σ[p.1]?=some (some v):=by
    cases q:σ[p.1]? with
    | none=>rw [q] at Eg;cases Eg
    | some z=>rw [q] at Eg;exact congrArg some Eg
   obtain⟨m0,Tx,lk⟩:=I.loc;obtain⟨u,ru,l⟩:=lk p.1 p.2 v a1 es (.inr (.inl a2));rcases l with l | ⟨_,c,ec,o,hc,hd⟩
   .have l1:X.env.scope.names.lookup p.2=some .local:=l.1;rw [a2] at l1;cases l1
   obtain⟨c',ec'⟩:=mZ.all p.2 (wK a3);have e3:=mZ.sub _ _ ec';rw [ec] at e3;cases e3;exact⟨u,ru,.inr ⟨.inl (wB xk a3 a2),c,ec',o,old _ _ hc,hd⟩⟩
 .obtain⟨v,o,h1,h2⟩:=I.cell y c (mZ.sub y c h);exact⟨v,o,old _ _ h1,h2⟩
 .show upd H s1.heap.objs.size (.lst []) C=none;rw [ai (jZ hC)];exact I.bY.fresh (i7 hC)
 .show upd H s1.heap.objs.size (.lst []) c=none;rw [ai (bD (lt y c h))];exact I.lD y c (mZ.sub y c h)
 .exact⟨by show 0<=sizeLine;decide,[],0,.nil,hD⟩
 show (dN ts js σ).length=(ts++js.map (·.2)).length;simp [dN]
def Ff (wi:TI) (ts:List Str)(js:List (Nat×Str))(g:TG)(tif:TT)(te:TE):TE:=λσ H Q=>wi σ H λJ H1=>∀D,H1 D=none->∃W:Nat->Nat->List V->St->Hp->Prop,(∃m,W 0 m [] (dN ts js σ) (upd H1 D (.lst []))) /\
 ∀i m ys σ' H,W i m ys σ' H->(J.stop i H/\Q (.ref D) H)\/(J.go i H/\∃m',m' < m/\∀x H',J.mD i H x H'->g x σ' H' λσ2 H2=>tif σ2 H2 λb H3 =>
  if b=true then te σ2 H3 λy H4=>H4 D=some (.lst ys)/\ys.length < sizeLine/\W (i+1) m' (ys++[y]) σ2 (upd H4 D (.lst (ys++[y]))) else W (i+1) m' ys σ2 H3)
def ba {X:Cx}{elt iter tg:Expr}{ifs:List Expr}{scope:Scope}{pos:Pos}{wi:TI}{g:TG}{tif:TT}{te:TE}(ts:List Str)(js:List (Nat×Str))(hc:X.calm=true)(hi:PI X tg iter wi)
  (cp:KO X scope js)(jq:∀y∈scope.names,y.2≠.cell)(jo:scope.kind=.function)
  (AN:∀y∈scope.names,y.2=.local->scope.names.lookup y.1=some .local)
  (hg:∀cl C s1 H1 fp,PG (tG X scope cl C s1 H1 (ts++js.map (·.2)) fp) tg g)
  (WO:∀cl C s1 H1 fp,EE (tG X scope cl C s1 H1 (ts++js.map (·.2)) fp) ifs tif)(he:∀cl C s1 H1 fp,PE (tG X scope cl C s1 H1 (ts++js.map (·.2)) fp) elt te)
  (hs:∀x,foldedSetIterable iter X.env x=pure x:=by intro _;rfl) :
  PE X (.ListComp elt [⟨tg,iter,ifs,0⟩] scope pos) (Ff wi ts js g tif te):=by
 intro ag s σ H Q I h;rw [eval_ListComp];obtain⟨cl,mZ⟩:=xf (env:=X.env) (scope:=scope) λy hy=>I.ok.has y (.inl (cp.all y hy));refine wpAny_comprehension_free (use:=none) rfl hs mZ.eq jo AN (cW (hi ag s σ H _ I h) λv s1 h1=>cW h1 λTn s2 h2=>?_);obtain⟨it,fp,tn,J,H2,e,I2,T,EI,f2,h2⟩:=h2;subst e;obtain⟨W,⟨m0,w0⟩,turn⟩:=h2 s2.heap.objs.size I2.fresh;have Hr:∀b∈fp,b < s2.heap.objs.size:=λb hb=>by obtain⟨o,e,_⟩:=T.obj _ _ EI b hb;exact bu e
 refine gH (wpAny_newFunctionEnv jq (by intro y hy;simp at hy) (λh₁ AM wW=>?_) jo);dsimp only at AM wW ⊢;generalize NQ:s2.heap.push { cls:=.type "list",dict:=none,data:=.seq ([]:List Value).toArray }=G2 at AM wW ⊢;have Kf:G2.objs.size=s2.heap.objs.size+1:=by rw [<-NQ,j5]
 have Xa:s2.heap.objs.size≠G2.objs.size:=by rw [Kf];exact bD (j7 _)
 have old:∀b o,s2.heap.get? b=some o->h₁.get? b=some o:=λb o e =>
  wW.extBut b o (by rw [Kf];exact bD (pX (bu e))) (bG _ (NQ ▸ bG _ e))
 have uj:h₁.get? s2.heap.objs.size=some { cls:=.type "list",data:=.seq ([]:List Value).toArray 0 }:=wW.extBut _ _ Xa (bG _ (NQ ▸ cy _ rfl));generalize oo:tG X scope cl G2.objs.size s2 H2 (ts++js.map (·.2)) fp=X2;have I4:Inv X2 [] (dN ts js σ) (upd H2 s2.heap.objs.size (.lst [])) { s2 with heap:=h₁,toks:=s2.toks+([]:List (Str×Value)).length }:=by
  rw [<-oo];exact uQ I2 f2 Hr jo jq cp mZ (by rw [Kf];exact j7 _) rfl rfl old AM uj
 have x1:X2.prog=X.prog:=by rw [<-oo];rfl
 have x2:X2.w=X.w:=by rw [<-oo];rfl
 have x3:X2.K=X.K:=by rw [<-oo];rfl
 have x4:X2.calm=true:=by rw [<-oo];exact hc
 have x5:X2.A=X.A:=by rw [<-oo];rfl
 have x6:X2.env=compEnvC scope cl G2.objs.size X.env:=by rw [<-oo];rfl
 have x7:X2.xe=λ_ _=>False:=by rw [<-oo];rfl
 have WQ:PG X2 tg g:=by rw [<-oo];exact hg _ _ _ _ _
 have NC:EE X2 ifs tif:=by rw [<-oo];exact WO _ _ _ _ _
 have AQ:PE X2 elt te:=by rw [<-oo];exact he _ _ _ _ _
 have Mp:tn 0 h₁:=T.keep _ _ _ EI λb _ o e=>old b o e;have rO:∀{H':Hp}{kc:List (Addr×Obj)},(∀b∈fp,H' b=none)->(∀p∈kc,p.1∉fp)->∀b∈fp,xp X2 kc H' b:=λ{H' kc} hn hp b hb=>by
  have o4:=I4.ok;subst oo;exact⟨hn b hb,(o4.O2 b hb).1,o4.DZ b hb,.inl hb,(o4.O2 b hb).2,λp pK=>by
   have oK:p∈([]:List (Addr×Obj))++kc:=pK;rw [kQ] at oK;intro z;exact hp p oK (by rw [z];exact hb)⟩
 have fin:∀{s':Shared}{σ':St}{H':Hp},Inv X2 [] σ' H' s'->Q (.ref s2.heap.objs.size) H' ->
   compPost (model X.prog X.w) X.A X.xe none (EP X ag σ Q) (.ref s2.heap.objs.size) G2.objs.size (.ok .next) s':=λ{s' σ' H'} J' q=>by
  subst oo;obtain⟨m',Ka,_⟩:=J'.loc;refine⟨m',Ka,λh' OP=>?_⟩;have u:Un (DU X.stack) fp H2 H' s2.heap s'.heap:=J'.base;have nC:∀b o,s2.heap.get? b=some o->b≠G2.objs.size:=λb o e=>by rw [Kf];exact bD (pX (bu e))
  have u':Un (DU X.stack) fp H2 H' s2.heap h':=⟨λb o e n hb hx=>(OP.2 b (nC b o e)).trans (u.keep b o e n hb hx),λb o e n hb hx=>by
    obtain⟨sl,z⟩:=u.slot b o e n hb hx;exact⟨sl,(OP.2 b (nC b o e)).trans z⟩,u.free,λb o e hx=>by
    obtain⟨o',z⟩:=u.there b o e hx;exact⟨o',(OP.2 b (nC b o e)).trans z⟩,u.ph,u.mS,u.nF⟩
  have bY:mi X.prog X.w H' h':=λb ob e=>by
   refine(J'.bY b ob e).kW (λc w' mR q'=>(OP.2 c ?_).trans q') (λ_ q=>q) λ_ _ q=>q;intro z;have fr:H' G2.objs.size=none:=J'.free;rcases mR with z' | z'
   .rw [<-z'] at e;rw [z,fr] at e;cases e
   rw [z,fr] at z';cases z'
  have I5:Inv X ag σ H' { s' with heap:=h' }:=I2.LO (s':={ s' with heap:=h' }) J'.os u' bY J'.bare λb hb=>by
   obtain⟨_,f1,_,f3,f4,f5⟩:=f2 b hb;exact⟨f3,f1,f4,f5⟩
  exact⟨.ref s2.heap.objs.size,H',I5,rfl,q⟩
 have loop:∀s₃:Shared,s₃={ s2 with heap:=h₁,toks:=s2.toks+([]:List (Str×Value)).length } ->
   codeAny (model X.prog X.w) X.A (.compLoop (.ListComp elt [⟨tg,iter,ifs,0⟩] scope pos) 0 (.ref it) (.ref s2.heap.objs.size) (compEnvC scope cl G2.objs.size X.env))
    (compPost (model X.prog X.w) X.A X.xe none (EP X ag σ Q) (.ref s2.heap.objs.size) G2.objs.size) s₃:=by
  rintro s₃ rfl;subst oo;refine qm (λn s'=>∃i ys σ' H',Inv (tG X scope cl G2.objs.size s2 H2 (ts++js.map (·.2)) fp) [] σ' H' s'/\tn i s'.heap/\(∀b∈fp,H' b=none)/\W i n ys σ' H') ?_ m0
   ⟨0,[],_,_,I4,Mp,λb hb=>by rw [ai (bD (Hr b hb))];exact(f2 b hb).1,w0⟩
  rintro n s' ⟨i,ys,σ0,H',J',uC,RK,w'⟩;rcases turn i n ys σ0 H' w' with ⟨stop,q⟩ | ⟨go,m',hm,step⟩
  .refine dB (T.done (tG X scope cl G2.objs.size s2 H2 (ts++js.map (·.2)) fp) rfl rfl rfl hc i [] s' _ H' (λ_ _=>False) J' (rO RK (by simp)) uC stop) (λr s4 ⟨hr,J4⟩=>?_) λ_ _ z=>z;subst hr;exact fin J4 q
  refine dB (T.item (tG X scope cl G2.objs.size s2 H2 (ts++js.map (·.2)) fp) rfl rfl rfl hc i [] s' _ H' (λ_ _=>False) J' (rO RK (by simp)) uC go) (λr s4 ⟨u,hr,h4⟩=>?_) λ_ _ z=>z;subst hr;refine dB h4 (λ_ s5 ⟨xv,H5,J5,r5,y5,CO,RJ⟩=>?_) λ_ _ z=>z;have Yt:=J5.pinned (rO RJ (by simp)) (T.obj _ _ CO);have back:∀{s7:Shared}{σ7:St}{H7:Hp},Inv (tG X scope cl G2.objs.size s2 H2 (ts++js.map (·.2)) fp) ([]++pE fp s5.heap) σ7 H7 s7->Inv (tG X scope cl G2.objs.size s2 H2 (ts++js.map (·.2)) fp) [] σ7 H7 s7/\tn (i+1) s7.heap/\∀b∈fp,H7 b=none:=λ{s7 σ7 H7} J7=>by
   refine⟨J7.kT,T.keep _ _ _ CO λb hb o e=>(J7.pin (b,o) (fS _ (fS _ (g7 hb e)))).1,λb hb=>?_⟩;obtain⟨o,e,d⟩:=T.obj _ _ CO b hb;exact(J7.pin (b,o) (fS _ (fS _ (g7 hb e)))).2.1
  show wpAny _ _ (assign tg (tG X scope cl G2.objs.size s2 H2 (ts++js.map (·.2)) fp).env u) _ _ s5;refine dB (WQ _ s5 _ H5 xv u _ Yt r5 (step xv H5 y5)) (λ_ s6 ⟨σ6,H6,J6,q6⟩=>?_) λ_ _ z=>z;refine dB (NC _ s6 _ H6 _ J6 q6) (λb s7 ⟨H7,J7,q7⟩=>?_) λ_ _ z=>z;cases b with
  | false =>
   rw [aw cZ] at q7 ⊢;obtain⟨J8,U3,Xk⟩:=back J7;exact⟨m',hm,i+1,ys,σ6,H7,J8,U3,Xk,q7⟩
  | true =>
   rw [ax rfl] at q7 ⊢;refine dB (AQ _ s7 _ H7 _ J7 q7) (λyv s8 ⟨y,H8,J8,r8,Xb,Wd,w8⟩=>?_) λ_ _ z=>z;refine dB (bL (X:=tG X scope cl G2.objs.size s2 H2 (ts++js.map (·.2)) fp) _ s8 _ H8 (.ref s2.heap.objs.size) [y] (.ref s2.heap.objs.size) [yv] (λv H'=>W (i+1) m' (ys++[y]) σ6 H') J8 rfl (.cons r8 .nil) ⟨s2.heap.objs.size,ys,y,rfl,rfl,Xb,Wd,w8⟩)
    (λ_ s9 ⟨_,H9,J9,_,w9⟩=>?_) λ_ _ z=>z
   obtain⟨Yu,Mq,NY⟩:=back J9;exact⟨m',hm,i+1,ys++[y],σ6,H9,Yu,Mq,NY,w9⟩
 exact codeAny_compStart_list (loop _ rfl) (T.self _ _ _ _ _ Mp (loop _ rfl))
def Ss (K:a8)(a:Addr):It :=
 ⟨λi H=>∃xs x,aG K H a xs/\xs[i]?=some x,λi H x H'=>∃t y,x=.ref t/\H t=none/\H'=upd H t (.tup [.int (i:Int),y])/\∀xs,aG K H a xs->xs[i]?=some y,λi H=>∃xs,aG K H a xs/\xs.length<=i⟩
def CK {P:Program}{w:World}{K:a8}{elts:List Expr}{k:Nat}{vQ:Pos}(a e it:Addr)(Rq:e≠it) :
  Turn P w K (.Tuple elts k vQ) (Ss K a) [e,it] e (λi h=>(∃old,IsEnum h e it i old)/\h.IsListIter it a i) where
 mem:=by simp
 obj:=λi h st b hb=>by
  obtain⟨⟨old,he⟩,o,e1,c,d⟩:=st;rcases bX.mp hb with rfl | hb
  .exact⟨_,he,λv z=>by cases z⟩
  obtain rfl:b=it:=by simpa using hb
  exact⟨o,e1,λv z=>by rw [d] at z;cases z⟩
 keep:=λi h h' st k=>⟨⟨st.1.choose,k e (by simp) _ st.1.choose_spec⟩,st.2.at λo q=>k it (by simp) o q⟩
 item:=by
  intro X hP hw hK hc i ag s σ H E I hf st hg;subst hP hw hK;obtain⟨xs,x,hq,hx⟩:=hg;obtain⟨aN,rv,p,hz⟩:=I.list hq;obtain⟨u,hu,ru⟩:=rv.get hx;obtain⟨⟨old,he⟩,hit⟩:=st;refine wpAny_pyNext_enum_item he hit p.isList (x:=u) (by simpa using hu) Rq λh1 ho NB hT hsz hk=>?_;refine⟨_,rfl,wpAny_letOwnedTupleGo_enum ho λh2 Rr sb=>?_⟩;have ne:s.heap.objs.size≠e:=jZ (bu he);have kk:∀b o,b≠e->b≠it->s.heap.get? b=some o->h2.get? b=some o:=λb o n1 n2 q=>(sb.2 b n1).trans (hk b o n1 n2 q);have T2:h2.get? s.heap.objs.size=some { cls:=.type "tuple",data:=.seq #[.int i s.toks,u] }:=(sb.2 _ ne).trans hT;have fe:=hf e (by simp);have fi:=hf it (by simp);have fT:H s.heap.objs.size=none:=I.bY.fresh (aD _);have tr:∀b v,H b=some v->b≠e/\b≠it:=λb v q=>⟨λz=>(by rw [z,fe.1] at q;cases q),λz=>(by rw [z,fi.1] at q;cases q)⟩;have nc:∀b,b∉[e,it]->b≠e/\b≠it:=λb z=>⟨λq=>z (by simp [q]),λq=>z (by simp [q])⟩;have lt:∀b o,s.heap.get? b=some o->b≠s.heap.objs.size:=λb o q=>bD (bu q);have I2:Inv X ag σ (upd H s.heap.objs.size (.tup [.int (i:Int),x])) { s with heap:=h2,toks:=s.toks+1 }:=by
   refine I.call (g':=s.gens) (t':=s.toks+1) (d':=s.drawn) (ch:=[e,it]) ⟨λb o q _ _ c=>kk b o (nc b c).1 (nc b c).2 q,λb o q _ _ c=>⟨o.slots,kk b o (nc b c).1 (nc b c).2 q⟩,
    λb o q n _=>by rw [ai (lt b o q)];exact n,λb o q c=>⟨o,kk b o (nc b c).1 (nc b c).2 q⟩,λb ys q=>by rw [ai (az q fT)];exact q,λb o v q=>by rw [ai (az q fT)];exact q,
    λb ps q=>⟨#[],by rw [ai (az q fT),q];simp⟩⟩ (λb v q=>?_) I.bare (λb hb=>?_)
   .by_cases hb:b=s.heap.objs.size
    .subst hb;rw [ae] at q;cases q;exact⟨by show 2<=sizeLine;decide,[.int i s.toks,u],.cons ⟨_,rfl⟩ (.cons ru .nil),_,T2,rfl,_,rfl⟩
    rw [ai hb] at q;refine(I.bY b v q).kW (λc o mR z=>?_) (λc q'=>by rw [ai (az q' fT)];exact q') λc ys q'=>by rw [ai (az q' fT)];exact q'
    rcases mR with rfl | mR
    .exact kk c o (tr c _ q).1 (tr c _ q).2 z
    exact kk c o (tr c _ mR).1 (tr c _ mR).2 z
   rcases bX.mp hb with rfl | hb
   .exact⟨fe.2.2.2.1,fe.2.1,fe.2.2.2.2.1,fe.2.2.2.2.2⟩
   obtain rfl:b=it:=by simpa using hb
   exact⟨fi.2.2.2.1,fi.2.1,fi.2.2.2.2.1,fi.2.2.2.2.2⟩
  refine⟨.ref s.heap.objs.size,_,I2,rfl,⟨_,x,rfl,fT,rfl,λys hy=>by rw [I.sI hy hq];exact hx⟩,⟨⟨_,Rr⟩,NB.at λo q=>(sb.2 it Rq.symm).trans q⟩,λb hb=>?_⟩;have IQ:H b=none/\∃o,s.heap.get? b=some o:=by
   rcases bX.mp hb with rfl | hb
   .exact⟨fe.1,_,he⟩
   obtain rfl:b=it:=by simpa using hb
   obtain⟨o,q,_⟩:=hit;exact⟨fi.1,o,q⟩
  obtain⟨n,o,q⟩:=IQ;rw [ai (lt b o q)];exact n
 done:=by
  intro X hP hw hK hc i ag s σ H E I hf st hg;subst hP hw hK;obtain⟨xs,hq,hx⟩:=hg;obtain⟨aN,rv,p,hz⟩:=I.list hq;obtain⟨⟨old,he⟩,hit⟩:=st;obtain⟨f0,f1,f2,f3,f4,f5⟩:=hf it (by simp);have hl:=rv.length;exact wpAny_pyNext_enum_end (I.ok.hd hc) he hit p.isList (by simp;omega) λh' eb=>⟨rfl,I.turned (t':=s.toks) (λb o hb e=>eb b o hb e) f0 f1 f3 f4 f5⟩
 self:=λ_ _ _ _ _ st h=>wpAny_pyIter_enum st.1.choose_spec h
def u9:bootBuiltins "enumerate"=some (.type "enumerate"):=by decide +kernel
def QT (K:a8)(ta:TA):TI:=λσ H R=>ta σ H λvs H1=>∃a xs,vs=[.ref a]/\aG K H1 a xs/\R (Ss K a) H1
def nZ {X:Cx}{elts:List Expr}{k:Nat}{vQ:Pos}{l:Expr}{ta:TA}{p pos:Pos}(hg:Gl X "enumerate")(hm:X.mg "enumerate"=none)(ha:PA X [l] ta)(hs:starEach [l] X.env=[(false,eval l X.env)]:=by rfl) :
  PI X (.Tuple elts k vQ) (.Call (.Name "enumerate" p) [l] [] pos) (QT X.K ta):=by
 intro ag s σ H R I h;refine Call_ (iP I hg hm u9 (xA (cW (ha pos ag s σ H _ I h) λus s1 ⟨vs,H1,I1,r1,q1⟩=>?_) hs rfl));obtain⟨a,xs,e,hq,q⟩:=q1;subst e;obtain⟨u,rfl,rx⟩:=r1.one;cases rx;obtain⟨aN,rv,pl,hz⟩:=I1.list hq;refine call_enumerate_list pl.isList λh1 he hit hsz hk=>wpAny_pyIter_enum he ?_;refine⟨s1.heap.objs.size+1,[s1.heap.objs.size+1,s1.heap.objs.size],_,_,H1,rfl,I1.kept (t':=s1.toks) λb o e=>hk b o e,CK a _ _ (jZ (j7 _)),⟨⟨_,he⟩,hit⟩,λb hb=>?_,q⟩;rcases bX.mp hb with rfl | hb
 .exact I1.wZ (i6 _) (I1.bY.fresh (i6 _))
 obtain rfl:b=s1.heap.objs.size:=by simpa using hb
 exact I1.wZ (aD _) (I1.bY.fresh (aD _))
def c_ (kvs bH:List (aL×V)):List (aL×V):=kvs.foldl (λa p=>bK a p.1 p.2) bH
theorem sY:∀{kvs:List (aL×V)}{vs:List (aL×Value)}{bH:List (aL×V)}{Ih:List (aL×Value)},KV kvs vs->KV bH Ih->KV (c_ kvs bH) (vs.foldl (λa p=>stored a p.1 p.2) Ih)
 | _,_,_,_,.nil,h=>h
 | _,_,_,_,.cons (a:=p) (b:=q) r t,h=>by
  obtain⟨e,rv⟩:=r;show KV (c_ _ (bK _ p.1 p.2)) (List.foldl _ (stored _ q.1 q.2) _);rw [<-e];exact sY t (h.put p.1 rv)
theorem sZ:∀(kvs bH:List (aL×V)),(c_ kvs bH).length<=bH.length+kvs.length
 | [],bH=>by simp [c_]
 | p::r,bH=>by
  have:=sZ r (bK bH p.1 p.2);have:=fK bH p.1 p.2;show (c_ r (bK bH p.1 p.2)).length<=_;rw [dQ];omega
section
variable {X:Cx}{ag:List (Addr×Obj)}{σ:St}{H:Hp}{s:Shared}
theorem pairs_at (I:Inv X ag σ H s):∀{ts:List Addr}{kvs:List (aL×V)}{aN:List Value},Paired (λt kv=>aR X.K H t [kV kv.1,kv.2]) ts kvs->aY (ts.map V.ref) aN ->
  ∃vs:List (aL×Value),KV kvs vs/\Paired (λu kv=>mW (bh X.prog X.w) s.heap u kv) aN vs
 | [],_,_,.nil,r=>by
  rw [ml] at r;cases r;exact⟨[],.nil,.nil⟩
 | t::ts,kv::kvs,_,.cons h p,r=>by
  rw [cN] at r;cases r with
  | cons r1 r2 =>
   obtain⟨vs,e1,e2⟩:=pairs_at I p r2;obtain⟨aN,rv,⟨o,h1,h2,n,h3⟩,_⟩:=I.tuple h;obtain⟨u1,u2,rfl,q1,q2⟩:=vals2 rv;exact⟨(kv.1,u2)::vs,.cons ⟨rfl,q2⟩ e1,.cons ⟨t,u1,n,o,r1,l8 q1,h1,h2,h3⟩ e2⟩
theorem Paired.at_ {α β:Type}{F:α->β->Prop}:∀{xs:List α}{ys:List β},Paired F xs ys->∀(m:Nat)(y:β),ys[m]?=some y->∃x,xs[m]?=some x/\F x y
 | _,_,.nil,m,y,e=>by cases m <;> cases e
 | _,_,.cons h t,0,y,e=>by cases e;exact⟨_,rfl,h⟩
 | _,_,.cons h t,m+1,y,e=>Paired.at_ t m y e
def dO (hc:X.calm=true):ig X (.type "dict") (λxs H Q=>∃a ts kvs,xs=[.ref a]/\H a=some (.lst (ts.map V.ref))/\Paired (λt kv=>aR X.K H t [kV kv.1,kv.2]) ts kvs/\∀d,H d=none->Q (.ref d) (upd H d (.dK (c_ kvs [])))):=by
 intro ag s σ H xs us Q I r h;obtain⟨a,ts,kvs,rfl,e,p,q⟩:=h;obtain⟨u,rfl,rx⟩:=vals1 r;cases (show u=Value.ref a from rx);obtain⟨z,aN,n,rv,ho⟩:=(show cK X.prog X.w H s.heap a (.lst _) from I.bY a _ e);obtain⟨vs,r1,r2⟩:=pairs_at I p rv;have l1:=a_ r2;have l2:=r1.length;have l3:=a_ p;rw [av] at z;refine tO (bh X.prog X.w) (I.ok.hd hc) ho (by simpa using l1) (λm kv em=>?_) (by omega) λh' t' hd kk=>?_
 .obtain⟨u,e1,e2⟩:=Paired.at_ r2 m kv em;exact⟨u,by simpa using e1,e2⟩
 have new:cK X.prog X.w (upd H s.heap.objs.size (.dK (c_ kvs []))) h' s.heap.objs.size (.dK (c_ kvs [])):=by
  refine tE ?_ ?_ (sY r1 .nil) hd
  .have:=sZ kvs [];simp at this;omega
  have:=I.big;exact kM.mpr (jZ this)
 exact⟨.ref s.heap.objs.size,_,I.laid (t':=t') kk (aD _) new,rfl,q _ (I.bY.fresh (aD _))⟩
theorem uK {α β:Type}{F:α->β->Prop}:∀{xs:List α}{ys:List β},xs.length=ys.length->(∀(j:Nat) x y,xs[j]?=some x->ys[j]?=some y->F x y)->Paired F xs ys
 | [],[],_,_=>.nil
 | [],_::_,e,_=>by cases e
 | _::_,[],e,_=>by cases e
 | x::xs,y::ys,e,h=>.cons (h 0 x y rfl rfl) (uK (Nat.succ.inj e) λj a b e1 e2=>h (j+1) a b e1 e2)
def Lm {P:Program}{w:World}{k:aL}{u:Value}(h:(bh P w).is k u=true):RelV (kV k) u:=by
 rcases du (show sJ k u=true from h) with ⟨i,t,rfl,rfl⟩ | ⟨x,t,rfl,rfl⟩
 .exact⟨t,rfl⟩
 exact⟨t,rfl⟩
def mV (hc:X.calm=true):ig X (.type "list") (λxs H Q=>∃a kvs,xs=[.ref a]/\H a=some (.dK kvs)/\∀D,H D=none->Q (.ref D) (upd H D (.lst (kvs.map λp=>kV p.1)))):=by
 intro ag s σ H xs us Q I r h;obtain⟨a,kvs,rfl,e,q⟩:=h;obtain⟨u,rfl,rx⟩:=vals1 r;cases (show u=Value.ref a from rx);obtain⟨z,hs,vs,rel,dd⟩:=yI I.bY e;obtain⟨o,es,ep,d1,d2,d3,d4⟩:=dd;have l1:=rel.length;refine PySem.W.kdl_call (PySem.W.kdl_dict (knd:=bh X.prog X.w) (kvs:=vs) (ep:=ep) hs) (I.ok.hd hc) ⟨o,es,d1,d2,d3,d4⟩ (by omega) λh' tk bH c kk hD uj=>?_;have keys:=rel.keys;have vals:aY (kvs.map λp=>kV p.1) bH.toList:=by
  refine uK (by have h1:=uj.1;simp only [av,iF];omega) λj x y e1 e2=>?_;rw [qT] at e2;obtain⟨k,v,e3,e4⟩:=uj.2 j y e2;rw [bo] at e1;obtain⟨p,e5,rfl⟩:=cf.mp e1;have e6:(kvs.map (·.1))[j]?=some p.1:=by rw [bo,e5];rfl
  rw [keys,bo,e3] at e6;cases e6;exact Lm e4
 have new:cK X.prog X.w (upd H s.heap.objs.size (.lst (kvs.map λp=>kV p.1))) h' s.heap.objs.size (.lst (kvs.map λp=>kV p.1)):=⟨by rw [av];exact z,bH.toList,c,vals,by simpa using hD⟩;exact⟨.ref s.heap.objs.size,_,I.laid (t':=tk) kk (aD _) new,rfl,q _ (I.bY.fresh (aD _))⟩
end
def tT (v:V):Prop:=gY v=true\/∃r,v=.ref r
def HP {x:V}(h:gY x=true):uX x x=true:=by
 cases x with
 | eU=>rfl
 | bl b=>exact oZ b
 | int i=>exact oZ i
 | str z=>exact oZ z
 | _=>cases h
def tq {A:Around}{s:Shared}{x:V}{u v:Value}(h:tT x)(ru:RelV x u)(rv:RelV x v):SeqAt.EqAt A s u v true:=by
 rcases h with h | ⟨r,rfl⟩
 .have q:=A4 (A:=A) (s:=s) ru rv h h;rw [HP h] at q;exact q
 cases (show u=Value.ref r from ru);cases (show v=Value.ref r from rv);exact .same _
section
variable {K:a8}{a D:Addr}{xs:List V}{ts:List Str}{js:List (Nat×Str)}{g:TG}{tif:TT}{te:TE}{R:Hp->Prop}{σ:St}{H:Hp}
def cH (Pv:Nat->List V->St->Hp->Prop)(h0:Pv 0 [] (dN ts js σ) (upd H D (.lst [])))(hl:∀i ys σ H,i<=xs.length->Pv i ys σ H->aG K H a xs)
  (hs:∀i x ys σ H,xs[i]?=some x->Pv i ys σ H->g x σ H λσ2 H2=>tif σ2 H2 λb H3=>if b=true then te σ2 H3 λy H4=>H4 D=some (.lst ys)/\ys.length < sizeLine/\Pv (i+1) (ys++[y]) σ2 (upd H4 D (.lst (ys++[y]))) else Pv (i+1) ys σ2 H3)
  (hd:∀ys σ H,Pv xs.length ys σ H->R H) :
  ∃W:Nat->Nat->List V->St->Hp->Prop,(∃m,W 0 m [] (dN ts js σ) (upd H D (.lst []))) /\
 ∀i m ys σ' H,W i m ys σ' H->((kj K a).stop i H/\R H)\/((kj K a).go i H/\∃m',m' < m/\∀x H',(kj K a).mD i H x H'->g x σ' H' λσ2 H2=>tif σ2 H2 λb H3 =>
  if b=true then te σ2 H3 λy H4=>H4 D=some (.lst ys)/\ys.length < sizeLine/\W (i+1) m' (ys++[y]) σ2 (upd H4 D (.lst (ys++[y]))) else W (i+1) m' ys σ2 H3):=by
 refine⟨λi m ys σ H=>m=xs.length - i/\i<=xs.length/\Pv i ys σ H,⟨xs.length,by simp,fh _,h0⟩,?_⟩;rintro i m ys σ' H ⟨rfl,hi,p⟩;have q:=hl i ys σ' H hi p;by_cases jd:i < xs.length
 .refine .inr ⟨⟨xs,xs[i],q,by simp [jd]⟩,xs.length - (i+1),by omega,λx H' y=>?_⟩;obtain⟨e,y⟩:=y;subst e;have z:=hs i x ys σ' _ (y xs q) p;have h1:(i+1<=xs.length)=True:=eq_true jd;simp only [h1,true_and];exact z
 have e:i=xs.length:=by omega
 subst e;exact .inl ⟨⟨xs,q,aD _⟩,hd ys σ' H p⟩
def yR {lo:Int}{n:Nat}(Pv:Nat->List V->St->Hp->Prop)(h0:Pv 0 [] (dN ts js σ) (upd H D (.lst [])))
  (hs:∀i ys σ H,i < n->Pv i ys σ H->g (.int (lo+i)) σ H λσ2 H2=>tif σ2 H2 λb H3=>if b=true then te σ2 H3 λy H4=>H4 D=some (.lst ys)/\ys.length < sizeLine/\Pv (i+1) (ys++[y]) σ2 (upd H4 D (.lst (ys++[y]))) else Pv (i+1) ys σ2 H3)
  (hd:∀ys σ H,Pv n ys σ H->R H) :
  ∃W:Nat->Nat->List V->St->Hp->Prop,(∃m,W 0 m [] (dN ts js σ) (upd H D (.lst []))) /\
 ∀i m ys σ' H,W i m ys σ' H->((KL lo n).stop i H/\R H)\/((KL lo n).go i H/\∃m',m' < m/\∀x H',(KL lo n).mD i H x H'->g x σ' H' λσ2 H2=>tif σ2 H2 λb H3 =>
  if b=true then te σ2 H3 λy H4=>H4 D=some (.lst ys)/\ys.length < sizeLine/\W (i+1) m' (ys++[y]) σ2 (upd H4 D (.lst (ys++[y]))) else W (i+1) m' ys σ2 H3):=by
 refine⟨λi m ys σ H=>m=n - i/\i<=n/\Pv i ys σ H,⟨n,by simp,fh _,h0⟩,?_⟩;rintro i m ys σ' H ⟨rfl,hi,p⟩;by_cases jd:i < n
 .refine .inr ⟨jd,n - (i+1),by omega,λx H' y=>?_⟩;obtain⟨rfl,rfl⟩:=y;have z:=hs i ys σ' _ jd p;have h1:(i+1<=n)=True:=eq_true jd;simp only [h1,true_and];exact z
 have e:i=n:=by omega
 subst e;exact .inl ⟨aD _,hd ys σ' H p⟩
end
def dX {K:a8}{t:Value}:PySem.W.kitOne K t t=some true:=by unfold PySem.W.kitOne;rw [ax (oZ t)]
def PX (t:TS):TS:=λD σ H=>∃R:St->Hp->Prop,t { D with nx:=R } σ H/\∀σ' H',R σ' H'->D.nx σ' H'
def qI {X:Cx}{st:Stmt}{t:TS}(h:PS X st t):PS X st (PX t):=by
 intro ag s σ H D I ⟨R,q,m⟩;refine cW (h ag s σ H _ I q) λf s1 z=>?_;cases f with
 | next=>obtain⟨σ',H',I',r⟩:=z;exact⟨σ',H',I',m _ _ r⟩
 | ret v=>exact z
 | brk=>exact z
 | cont=>exact z
def aE (P:Program)(w:World)(K:a8)(mg:Str->Option Value)(base:Heap) (k:Nat)(x:Str) (ps:List Str)(sp:Sp):Prop :=
 ∃f fd,bQ P w K mg base fX k f fd ps sp/\Binds K fd ps []/\PySem.W.keepIn K (.ref f)=true/\mg x=some (.ref f)
theorem aE.mono {P:Program}{w:World}{K:a8}{mg:Str->Option Value}{base:Heap}{j k:Nat}{x:Str}{ps:List Str}{sp:Sp}(c:aE P w K mg base j x ps sp)(h:j<=k):aE P w K mg base k x ps sp :=
 let ⟨f,fd,a,b⟩:=c;⟨f,fd,a.mono h,b⟩
def bc {X:Cx}{k:Nat}{x:Str}{ps:List Str}{sp:Sp}{e:Expr}{es:List Expr}{t:TA}{p pos:Pos}(c:aE X.prog X.w X.K X.mg X.base k x ps sp)(hr:fg k X.A)(hg:Gl X x)(ha:PA X (e::es) t)
  (DL:(x == ("__debug__":Str))=false:=by decide)(he:starEach (e::es) X.env=(false,eval e X.env)::starEach es X.env:=by rfl)(uR:(backTo pos (starEach es X.env)).any (·.1)=false:=by rfl) :
  PE X (.Call (.Name x p) (e::es) [] pos) (KS sp [] E0 t):=by
 obtain⟨f,fd,G,b,kp,m⟩:=c;exact JG G hr hg m kp b .nil uI ha DL he uR
def fits {n:Nat}(h:n<=1000000):n<=sizeLine:=dH h (by decide)
def bE {n:Nat}(h:n<=1000000):n < sizeLine:=rq h (by decide)
def af {H:Hp}{p:Addr}(h:H p=none)(o:HO):aB H (upd H p o):=λb u q=>by rw [ai (az q h)];exact q
def aB.tup {K:a8}{H H':Hp}{a:Addr}{xs:List V}(e:aB H H')(h:aR K H a xs):aR K H' a xs:=by
 rcases h with (h | ⟨o,h⟩) | h
 .exact .inl (.inl (e _ _ h))
 .exact .inl (.inr ⟨o,e _ _ h⟩)
 exact .inr h
def gB {X:Cx}(hc:X.calm=true):ig X (.builtin "all") (λxs H Q=>∃(a:Addr)(bs:List Bool),xs=[.ref a]/\aG X.K H a (bs.map V.bl)/\Q (.bl (bs.all id)) H):=by
 intro ag s σ H xs us Q I r h;obtain⟨a,bs,rfl,hq,q⟩:=h;obtain⟨u,rfl,rx⟩:=vals1 r;cases (show u=Value.ref a from rx);obtain⟨aN,rv,pl,hz⟩:=I.list hq;obtain⟨o,h1,h2,m,h3⟩:=id pl.isList;have la:a < s.heap.objs.size:=bu h1;have ln:=rv.length;rw [av] at ln;have isB:∀(i:Nat) v,aN.toArray[i]?=some v->v=.bool (bs.getD i true):=λi v e=>by
  have e':aN[i]?=some v:=by simpa using e
  obtain⟨x,e2,e3⟩:=Paired.at_ rv i v e';rw [bo] at e2;obtain⟨b,e4,rfl⟩:=cf.mp e2;rw [nr,e4];exact e3
 refine call_all_walk (mw pl.isList ?_);refine⟨s.heap.objs.size,_,_,_,_,_,λi=>bs.getD i true,rfl,Walks.list (A:=X.A.in1) (show X.A.in1.handled=none from I.ok.hd hc) s.heap.objs.size a (bD la) aN.toArray,⟨⟨_,cy _ rfl,rfl,rfl⟩,⟨o,bG _ h1,h2,m,h3⟩⟩,?_,λh' tk kk=>?_⟩
 .intro i v s1 Q1 E1 hP hQ1;rw [isB i v hP];exact ni hQ1
 have e:((List.range aN.toArray.size).all λi=>bs.getD i true)=bs.all id:=by
  rw [bN,<-ln,m_,gq,gq];constructor
  .intro h b hb;obtain⟨i,hi,e⟩:=qR.mp hb;have:=h i (jC.mpr hi);rw [nr,b9 hi,e] at this;exact this
  intro h i hi;have Z1:=jC.mp hi;rw [nr,b9 Z1];exact h _ (pW Z1)
 rw [e];exact⟨.bl _,H,I.kept (t':=tk) λb o' e'=>kk b o' (by simp;exact bD (bu e')) (bG _ e'),rfl,q⟩
section
variable {prog:Program}{w:World}{A:Around}{E:Value->Shared->Prop}{s:Shared}
def Aw {it l:Addr}{i:Nat}{items:Array Value}{x:Value}{Q:Value->Shared->Prop}(hit:s.heap.IsTupleIter it l i)(hl:s.heap.IsTuple l items)(hx:items[i]?=some x)
  (hQ:∀h',h'.IsTupleIter it l (i+1)->Heap.SameBut it s.heap h'->Q x { s with heap:=h' }):wpAny (model prog w) A (Builtin.SmallTypes.nextOf (.ref it)) Q E s:=by
 obtain⟨o,ho,hc,hd⟩:=id hit;obtain⟨ol,OS,_,nl,Lr⟩:=hl;unfold Builtin.SmallTypes.nextOf;refine aq (nq (name:=Str.ofString "__next__") hit.typeIs vN (j6 vN hit.typeIs F.entry_tuple_iterator_next ?_ (F.args_tuple_iterator_next_1 _)));show wpAny _ _ (field (.ref it) 0 >>= λv=>_) _ _ s;refine aq (iq ho hd (x:=.ref l) (by rfl) ?_);show wpAny _ _ (if (Value.ref l == .none)=true then _ else _) _ _ s;rw [aw (by exact cZ)];show wpAny _ _ (field (.ref it) 1 >>= λv=>_) _ _ s;refine aq (iq ho hd (x:=.int i 0) (by rfl) ?_);show wpAny _ _ (seqItems? (.ref l) >>= λv=>_) _ _ s;refine aq (mq OS Lr (by
  simp only [gI,hx];refine aq (qV ho hd (by simp) (aH ⟨x,rfl,aH (hQ _ ⟨_,qQ _ ho (Obj.isFreed_of_fields (o5 hd _)),(Obj.cls_mapFields ..).trans hc,?_⟩ (mC ..))⟩));rw [o5 hd];simp [rawInt]))
def A5 {e it l:Addr}{i:Nat}{items:Array Value}{x old:Value}{Q:Option Value->Shared->Prop}(he:IsEnum s.heap e it i old)(hit:s.heap.IsTupleIter it l i)(hl:s.heap.IsTuple l items)(hx:items[i]?=some x)(ET:e≠it)
  (hQ:∀h',IsEnumOut h' e it ((i:Int)+1) x s.heap.objs.size->h'.IsTupleIter it l (i+1)->h'.get? s.heap.objs.size=some { cls:=.type "tuple",data:=.seq #[.int i s.toks,x] } ->
   (∀b o,b≠e->b≠it->s.heap.get? b=some o->h'.get? b=some o)->Q (some (.ref s.heap.objs.size)) { s with heap:=h',toks:=s.toks+1 }) :
  wpAny (model prog w) A (pyNext (.ref e)) Q E s:=by
 have hT:s.TypeIs (.ref e) "enumerate" := ⟨_,he,rfl⟩;unfold pyNext;refine aq (oN (nq (name:=Str.ofString "__next__") hT vE (j6 vE hT F.entry_enumerate_next ?_ (F.args_enumerate_next_1 _))));obtain⟨hp,g,d,tk,os⟩:=s;show wpAny _ _ (field (.ref e) 2 >>= λv=>_) _ _ _;refine aq (iq he rfl (x:=.ref it) (by rfl) (aq (Aw hit hl hx λh₁ WN Q4=>?_)));replace Q4:Heap.SameBut it hp h₁:=Q4;have WU:IsEnum h₁ e it i old:=(Q4.2 e ET).trans he;show wpAny _ _ (field (.ref e) 3 >>= λv=>_) _ _ ⟨h₁,g,d,tk,os⟩;refine aq (iq WU rfl (x:=rawInt i) (by rfl) ?_);show wpAny _ _ (field (.ref e) 4 >>= λv=>_) _ _ ⟨h₁,g,d,tk,os⟩;refine aq (iq WU rfl (x:=.none) (by rfl) ?_);show wpAny _ _ (mkInt i >>= λv=>_) _ _ ⟨h₁,g,d,tk,os⟩;refine aq (wpAny_mkInt ?_);show wpAny _ _ (setField (.ref e) 3 (rawInt ((i:Int)+1)) >>= λv=>_) _ _ ⟨h₁,g,d,tk+1,os⟩;refine aq (rm WU (by simp) λh₂ f₂ hs₂=>?_);have he₂:IsEnum h₂ e it ((i:Int)+1) old:=f₂;have k₂:Heap.SameBut e h₁ h₂:=hs₂;show wpAny _ _ (setField (.ref e) 4 .none >>= λv=>_) _ _ ⟨h₂,g,d,tk+1,os⟩;refine aq (rm he₂ (by simp) λh₃ f₃ hs₃=>?_);have he₃:IsEnum h₃ e it ((i:Int)+1) old:=f₃;have k₃:Heap.SameBut e h₂ h₃:=hs₃;show wpAny _ _ (newTuple [.int i tk,x] >>= λv=>_) _ _ ⟨h₃,g,d,tk+1,os⟩;refine aq (wpAny_newTuple ?_);have TK:IsEnum (h₃.push { cls:=.type "tuple",data:=.seq #[.int i tk,x] }) e it ((i:Int)+1) old:=bG _ he₃;have hsz:h₃.objs.size=hp.objs.size:=by rw [k₃.1,k₂.1,Q4.1]
 have DK:e < hp.objs.size:=bu he;have ZQ:(h₃.push { cls:=.type "tuple",data:=.seq #[.int i tk,x] }).get? hp.objs.size=some { cls:=.type "tuple",data:=.seq #[.int i tk,x] }:=by rw [<-hsz];exact cy _ rfl
 have ZX:∀b o,b≠e->b≠it->hp.get? b=some o->(h₃.push { cls:=.type "tuple",data:=.seq #[.int i tk,x] }).get? b=some o:=λb o n1 n2 hb=>bG _ (k₃.extBut b o n1 (k₂.extBut b o n1 (Q4.extBut b o n2 hb)));have Rk:(h₃.push { cls:=.type "tuple",data:=.seq #[.int i tk,x] }).IsTupleIter it l (i+1):=WN.at λo q=>bG _ (k₃.extBut it o (fk ET) (k₂.extBut it o (fk ET) q));generalize h₃.push { cls:=.type "tuple",data:=.seq #[.int i tk,x] }=h₄ at TK ZQ ZX Rk ⊢;rw [hsz];show wpAny _ _ (Builtin.SmallTypes.ownedTupleIsFree (.ref e) >>= λv=>_) _ _ ⟨h₄,g,d,tk+1,os⟩;refine aq (by
  unfold Builtin.SmallTypes.ownedTupleIsFree;refine aq (iq TK rfl (x:=.none) (by rfl) (aH (by
   simp only [if_true];refine aq (ik (aq (iq TK rfl (x:=old) (by rfl) (aq (rm TK (by simp) λh₅ f₅ hs₅=>?_)))));have he₅:IsEnum h₅ e it ((i:Int)+1) x:=f₅;have k₅:Heap.SameBut e h₄ h₅:=hs₅;show wpAny _ _ (Builtin.SmallTypes.ownedTupleHandOut (.ref e) (.ref hp.objs.size) >>= λv=>_) _ _ ⟨h₅,g,d,tk+1,os⟩;refine aq (by
    unfold Builtin.SmallTypes.ownedTupleHandOut;refine aq (rm he₅ (by simp) λh₆ f₆ hs₆=>?_);have he₆:IsEnumOut h₆ e it ((i:Int)+1) x hp.objs.size:=f₆;have k₆:Heap.SameBut e h₅ h₆:=hs₆;refine rm he₆ (by simp) λh₇ f₇ hs₇=>?_;have he₇:IsEnumOut h₇ e it ((i:Int)+1) x hp.objs.size:=f₇;have k₇:Heap.SameBut e h₆ h₇:=hs₇;have up:∀b o,b≠e->h₄.get? b=some o->h₇.get? b=some o:=λb o n q=>k₇.extBut b o n (k₆.extBut b o n (k₅.extBut b o n q));exact aq (wpAny_letGo (aH ⟨_,rfl,aH (hQ h₇ he₇ (Rk.at λo q=>up it o (fk ET) q) (up _ _ (jZ DK) ZQ) λb o n1 n2 q=>up b o n1 (ZX b o n1 n2 q))⟩)))))))
def sE {it l:Addr}{i:Nat}{items:Array Value}{Q:Value->Shared->Prop}(hh:A.handled=none)(hit:s.heap.IsTupleIter it l i)(hl:s.heap.IsTuple l items)(hx:items[i]?=none)
  (hE:∀h' e,Heap.ExtBut it s.heap h'->(∃o,h'.get? e=some o/\o.cls=.type "StopIteration")->E (.ref e) { s with heap:=h' }):wpAny (model prog w) A (Builtin.SmallTypes.nextOf (.ref it)) Q E s:=by
 obtain⟨o,ho,hc,hd⟩:=id hit;obtain⟨ol,OS,_,nl,Lr⟩:=hl;unfold Builtin.SmallTypes.nextOf;refine aq (nq (name:=Str.ofString "__next__") hit.typeIs vN (j6 vN hit.typeIs F.entry_tuple_iterator_next ?_ (F.args_tuple_iterator_next_1 _)));show wpAny _ _ (field (.ref it) 0 >>= λv=>_) _ _ s;refine aq (iq ho hd (x:=.ref l) (by rfl) ?_);show wpAny _ _ (if (Value.ref l == .none)=true then _ else _) _ _ s;rw [aw (by exact cZ)];show wpAny _ _ (field (.ref it) 1 >>= λv=>_) _ _ s;refine aq (iq ho hd (x:=.int i 0) (by rfl) ?_);show wpAny _ _ (seqItems? (.ref l) >>= λv=>_) _ _ s;refine aq (mq OS Lr ?_);simp only [gI,hx];refine aq (ik (aq (qV ho hd (by simp) (aq ?_))));simp only [newExc,newTuple];refine aq (gH ?_ (by size_fits));refine aq (m:=firstArgMember _ _) (wpAny_of_eq (a:=Value.none) (by first | rfl | (simp only [firstArgMember];rfl)) ?_)
 refine gH ?_ (by size_fits);simp only [raiseNew];refine aq (wpAny_handled ?_)
 first | rw [show A.in1.handled=none from hh] | rw [hh]
 refine aq (aH (wpAny_throw (hE _ _ (((mC ..).extBut.push _).push _) ⟨_,cy _ rfl,rfl⟩)))
def Ea {e it l:Addr}{i:Nat}{items:Array Value}{old:Value}{Q:Option Value->Shared->Prop}(hh:A.handled=none)(he:IsEnum s.heap e it i old)(hit:s.heap.IsTupleIter it l i)(hl:s.heap.IsTuple l items)(hx:items[i]?=none)
  (hQ:∀h',Heap.ExtBut it s.heap h'->Q none { s with heap:=h' }):wpAny (model prog w) A (pyNext (.ref e)) Q E s:=by
 have hT:s.TypeIs (.ref e) "enumerate" := ⟨_,he,rfl⟩;unfold pyNext;refine aq (oN (nq (name:=Str.ofString "__next__") hT vE (j6 vE hT F.entry_enumerate_next ?_ (F.args_enumerate_next_1 _))));show wpAny _ _ (field (.ref e) 2 >>= λv=>_) _ _ _;refine aq (iq he rfl (x:=.ref it) (by rfl) (aq (sE hh hit hl hx λh' x AQ Wi=>?_)));obtain⟨o,ho,hc⟩:=Wi;exact aq (q9 (T := "StopIteration") (b:=true) ⟨o,ho,hc⟩ isSubtype_stop (aH (hQ _ AQ)))
end
def yr (l:Addr)(items:Array Value) (n:Nat)(A_:Option Addr)(sl:Array (Option Value)) :
  Meets (Builtin.«enumerate.__new__» ⟨[.type "enumerate",.ref l],[]⟩) (λ_ R s=>s.heap.get? l=some { cls:=.type "tuple",dict:=A_,data:=.seq items n,slots:=sl } /\
   R (.ok (.ret (.ref (s.heap.push { cls:=.type "tuple_iterator",data:=.fields #[.ref l,.int 0 0] }).objs.size)))
    { s with heap:=(s.heap.push { cls:=.type "tuple_iterator",data:=.fields #[.ref l,.int 0 0] }).push { cls:=.type "enumerate",data:=.fields #[.none,.bool false,.ref s.heap.objs.size,rawInt 0,.none,.none] } }) :=
 .of_wp λprog w A R s h=>by
  obtain⟨hp,g,d,tk,os⟩:=s;obtain⟨hl,h⟩:=h;have Q5:=sub_enumerate;have hT:Heap.IsTuple (Shared.heap ⟨hp,g,d,tk,os⟩) l items:=⟨_,hl,rfl,n,rfl⟩
  wp_walk using vK hl
  refine wpAny_stack_any λst=>aH ?_;split
  .rename_i c _ _ _ _ _
   cases (c == Value.type "enumerate")
   .wp_walk using vK hl,vq hT;exact⟨_,rfl,h⟩
   wp_walk using vK hl,vq hT;exact⟨_,rfl,h⟩
  wp_walk using vK hl,vq hT;exact⟨_,rfl,h⟩
section
variable {prog:Program}{w:World}{A:Around}{E:Value->Shared->Prop}{s:Shared}
def Bc {l:Addr}{items:Array Value}{Q:Value->Shared->Prop}(hL:s.heap.IsTuple l items)
  (h:∀h',IsEnum h' (s.heap.objs.size+1) s.heap.objs.size 0 .none->h'.IsTupleIter s.heap.objs.size l 0->(∀b o,s.heap.get? b=some o->h'.get? b=some o)->Q (.ref (s.heap.objs.size+1)) { s with heap:=h' }) :
  wpAny (model prog w) A (call (.type "enumerate") [.ref l]) Q E s:=by
 obtain⟨⟨c,A_,dt,sl⟩,hl,hc,n,hd⟩:=hL;replace hc:c=.type "tuple" := hc;replace hd:dt=.seq items n:=hd;subst hc hd;refine callType_new F.called_enumerate (by decide) (F.typeCall_enumerate_1 _) (F.newCall_enumerate_1 _) (λobj=>F.args_object_init_2 obj _) F.entry_enumerate_new (yr l items n A_ sl) ⟨hl,?_⟩;have hz:(s.heap.push { cls:=.type "tuple_iterator",data:=.fields #[.ref l,.int 0 0] }).objs.size=s.heap.objs.size+1:=j5 ..;show _/\_;rw [hz];have he:IsEnum ((s.heap.push { cls:=.type "tuple_iterator",data:=.fields #[.ref l,.int 0 0] }).push { cls:=.type "enumerate",data:=.fields #[.none,.bool false,.ref s.heap.objs.size,rawInt 0,.none,.none] }) (s.heap.objs.size+1) s.heap.objs.size 0 .none:=by
  have:=cy (s.heap.push { cls:=.type "tuple_iterator",data:=.fields #[.ref l,.int 0 0] }) (o:={ cls:=.type "enumerate",data:=.fields #[.none,.bool false,.ref s.heap.objs.size,rawInt 0,.none,.none] }) rfl;rw [hz] at this;exact this
 exact⟨⟨_,he,rfl⟩,h _ he ⟨_,bG _ (cy _ rfl),rfl,rfl⟩ λb o x=>bG _ (bG _ x)⟩
end
def tU (K:a8)(a:Addr):It :=
 ⟨λi H=>∃xs x,aR K H a xs/\xs[i]?=some x,λi H x H'=>∃t y,x=.ref t/\H t=none/\H'=upd H t (.tup [.int (i:Int),y])/\∀xs,aR K H a xs->xs[i]?=some y,λi H=>∃xs,aR K H a xs/\xs.length<=i⟩
def zK {P:Program}{w:World}{K:a8}{elts:List Expr}{k:Nat}{vQ:Pos}(a e it:Addr)(Rq:e≠it) :
  Turn P w K (.Tuple elts k vQ) (tU K a) [e,it] e (λi h=>(∃old,IsEnum h e it i old)/\h.IsTupleIter it a i) where
 mem:=by simp
 obj:=λi h st b hb=>by
  obtain⟨⟨old,he⟩,o,e1,c,d⟩:=st;rcases bX.mp hb with rfl | hb
  .exact⟨_,he,λv z=>by cases z⟩
  obtain rfl:b=it:=by simpa using hb
  exact⟨o,e1,λv z=>by rw [d] at z;cases z⟩
 keep:=λi h h' st k=>⟨⟨st.1.choose,k e (by simp) _ st.1.choose_spec⟩,st.2.at λo q=>k it (by simp) o q⟩
 item:=by
  intro X hP hw hK hc i ag s σ H E I hf st hg;subst hP hw hK;obtain⟨xs,x,hq,hx⟩:=hg;obtain⟨aN,rv,p,hz⟩:=I.tuple hq;obtain⟨u,hu,ru⟩:=rv.get hx;obtain⟨⟨old,he⟩,hit⟩:=st;refine A5 he hit (show s.heap.IsTuple a aN.toArray from p) (x:=u) (by simpa using hu) Rq λh1 ho NB hT hk=>?_;refine⟨_,rfl,wpAny_letOwnedTupleGo_enum ho λh2 Rr sb=>?_⟩;have ne:s.heap.objs.size≠e:=jZ (bu he);have kk:∀b o,b≠e->b≠it->s.heap.get? b=some o->h2.get? b=some o:=λb o n1 n2 q=>(sb.2 b n1).trans (hk b o n1 n2 q);have T2:h2.get? s.heap.objs.size=some { cls:=.type "tuple",data:=.seq #[.int i s.toks,u] }:=(sb.2 _ ne).trans hT;have fe:=hf e (by simp);have fi:=hf it (by simp);have fT:H s.heap.objs.size=none:=I.bY.fresh (aD _);have tr:∀b v,H b=some v->b≠e/\b≠it:=λb v q=>⟨λz=>(by rw [z,fe.1] at q;cases q),λz=>(by rw [z,fi.1] at q;cases q)⟩;have nc:∀b,b∉[e,it]->b≠e/\b≠it:=λb z=>⟨λq=>z (by simp [q]),λq=>z (by simp [q])⟩;have lt:∀b o,s.heap.get? b=some o->b≠s.heap.objs.size:=λb o q=>bD (bu q);have I2:Inv X ag σ (upd H s.heap.objs.size (.tup [.int (i:Int),x])) { s with heap:=h2,toks:=s.toks+1 }:=by
   refine I.call (g':=s.gens) (t':=s.toks+1) (d':=s.drawn) (ch:=[e,it]) ⟨λb o q _ _ c=>kk b o (nc b c).1 (nc b c).2 q,λb o q _ _ c=>⟨o.slots,kk b o (nc b c).1 (nc b c).2 q⟩,
    λb o q n _=>by rw [ai (lt b o q)];exact n,λb o q c=>⟨o,kk b o (nc b c).1 (nc b c).2 q⟩,λb ys q=>by rw [ai (az q fT)];exact q,λb o v q=>by rw [ai (az q fT)];exact q,
    λb ps q=>⟨#[],by rw [ai (az q fT),q];simp⟩⟩ (λb v q=>?_) I.bare (λb hb=>?_)
   .by_cases hb:b=s.heap.objs.size
    .subst hb;rw [ae] at q;cases q;exact⟨by show 2<=sizeLine;decide,[.int i s.toks,u],.cons ⟨_,rfl⟩ (.cons ru .nil),_,T2,rfl,_,rfl⟩
    rw [ai hb] at q;refine(I.bY b v q).kW (λc o mR z=>?_) (λc q'=>by rw [ai (az q' fT)];exact q') λc ys q'=>by rw [ai (az q' fT)];exact q'
    rcases mR with rfl | mR
    .exact kk c o (tr c _ q).1 (tr c _ q).2 z
    exact kk c o (tr c _ mR).1 (tr c _ mR).2 z
   rcases bX.mp hb with rfl | hb
   .exact⟨fe.2.2.2.1,fe.2.1,fe.2.2.2.2.1,fe.2.2.2.2.2⟩
   obtain rfl:b=it:=by simpa using hb
   exact⟨fi.2.2.2.1,fi.2.1,fi.2.2.2.2.1,fi.2.2.2.2.2⟩
  refine⟨.ref s.heap.objs.size,_,I2,rfl,⟨_,x,rfl,fT,rfl,λys hy=>by rw [I.ux hy hq];exact hx⟩,⟨⟨_,Rr⟩,NB.at λo q=>(sb.2 it Rq.symm).trans q⟩,λb hb=>?_⟩;have IQ:H b=none/\∃o,s.heap.get? b=some o:=by
   rcases bX.mp hb with rfl | hb
   .exact⟨fe.1,_,he⟩
   obtain rfl:b=it:=by simpa using hb
   obtain⟨o,q,_⟩:=hit;exact⟨fi.1,o,q⟩
  obtain⟨n,o,q⟩:=IQ;rw [ai (lt b o q)];exact n
 done:=by
  intro X hP hw hK hc i ag s σ H E I hf st hg;subst hP hw hK;obtain⟨xs,hq,hx⟩:=hg;obtain⟨aN,rv,p,hz⟩:=I.tuple hq;obtain⟨⟨old,he⟩,hit⟩:=st;obtain⟨f0,f1,f2,f3,f4,f5⟩:=hf it (by simp);have hl:=rv.length;exact Ea (I.ok.hd hc) he hit (show s.heap.IsTuple a aN.toArray from p) (by simp;omega) λh' eb=>⟨rfl,I.turned (t':=s.toks) (λb o hb e=>eb b o hb e) f0 f1 f3 f4 f5⟩
 self:=λ_ _ _ _ _ st h=>wpAny_pyIter_enum st.1.choose_spec h
def Nq (K:a8)(ta:TA):TI:=λσ H R=>ta σ H λvs H1=>∃a xs,vs=[.ref a]/\aR K H1 a xs/\R (tU K a) H1
def nY {X:Cx}{elts:List Expr}{k:Nat}{vQ:Pos}{l:Expr}{ta:TA}{p pos:Pos}(hg:Gl X "enumerate")(hm:X.mg "enumerate"=none)(ha:PA X [l] ta)(hs:starEach [l] X.env=[(false,eval l X.env)]:=by rfl) :
  PI X (.Tuple elts k vQ) (.Call (.Name "enumerate" p) [l] [] pos) (Nq X.K ta):=by
 intro ag s σ H R I h;refine Call_ (iP I hg hm u9 (xA (cW (ha pos ag s σ H _ I h) λus s1 ⟨vs,H1,I1,r1,q1⟩=>?_) hs rfl));obtain⟨a,xs,e,hq,q⟩:=q1;subst e;obtain⟨u,rfl,rx⟩:=r1.one;cases rx;obtain⟨aN,rv,pl,hz⟩:=I1.tuple hq;refine Bc (show s1.heap.IsTuple a aN.toArray from pl) λh1 he hit hk=>wpAny_pyIter_enum he ?_;refine⟨s1.heap.objs.size+1,[s1.heap.objs.size+1,s1.heap.objs.size],_,_,H1,rfl,I1.kept (t':=s1.toks) λb o e=>hk b o e,zK a _ _ (jZ (j7 _)),⟨⟨_,he⟩,hit⟩,λb hb=>?_,q⟩;rcases bX.mp hb with rfl | hb
 .exact I1.wZ (i6 _) (I1.bY.fresh (i6 _))
 obtain rfl:b=s1.heap.objs.size:=by simpa using hb
 exact I1.wZ (aD _) (I1.bY.fresh (aD _))
open PySem PySem.Spec PyProof.Rows PySem.W
def ki (c':Addr)(qual:Str):HO:=.ext λh=>h.CodeRec (.ref c') qual
def pG (f:Addr)(o:Obj):HO:=.ext λh=>h.get? f=some o
def yU {P:Program}{w:World}{H:Hp}{h:Heap}{c':Addr}{qual:Str}(hr:h.CodeRec (.ref c') qual):cK P w H h c' (ki c' qual):=by
 obtain⟨c2,oc,vs,t,e,zt,hd,hv⟩:=id hr;cases e;exact⟨hr,⟨oc,zt⟩,λh1 h2 ⟨c3,oc3,vs3,t3,e3,WG,je,OO⟩ k=>by cases e3;exact⟨_,oc3,vs3,t3,rfl,k _ WG,je,OO⟩⟩
def qL {P:Program}{w:World}{H:Hp}{h:Heap}{f:Addr}{o:Obj}(e:h.get? f=some o):cK P w H h f (pG f o):=⟨e,⟨o,e⟩,λ_ _ q k=>k _ q⟩
def Tab (T:Addr)(pos:Pos)(qual:Str)(H:Hp):Prop :=
 ∃ps,H T=some (.tX ps)/\TriplesOk ps.toList/\(codeAmong pos ps.toList=none\/∃c',codeAmong pos ps.toList=some (.ref c')/\H c'=some (ki c' qual))
def cX (T:Addr)(H H':Hp):Prop:=∀b o,b≠T->H b=some o->H' b=some o
def tV (mg:Str->Option Value)(base:Heap):Prop :=
 ∃bm o,mg "__builtins__"=some (.ref bm)/\bm≠builtinsNs/\bm≠mainGlobals/\base.get? bm=some o/\o.cls=.type "module" /\ o.dict=some builtinsNs/\o.data=.plain
theorem jD {a b:Int}{ta tb:Tok}{c:Value}:∀l:List Value,TriplesOk l->TriplesOk (l++[.int a ta,.int b tb,c])
 | [],_=>trivial
 | [x],h=>by cases x <;> exact h.elim
 | [x,y],h=>by cases x <;> cases y <;> exact h.elim
 | x::y::z::r,h=>by
  cases x with
  | int i ti =>
   cases y with
   | int j tj=>exact jD r h
   | _=>exact h.elim
  | _=>exact h.elim
section
variable {X:Cx}{params:Arguments}{body:Expr}{scope:Scope}{pos:Pos}{c T:Addr}
abbrev mK (X:Cx)(params:Arguments)(body:Expr)(scope:Scope)(c':Addr)(gF:Value):Obj:=kla_obj "<lambda>" (X.env.qual ++ "<lambda>") params body scope [] ((X.mg "__name__").getD .none) c' gF
def UT (X:Cx)(params:Arguments)(body:Expr)(scope:Scope)(pos:Pos)(T:Addr):TE:=λσ H Q=>Tab T pos (X.env.qual ++ "<lambda>") H /\
 ∀f c' gF H',cX T H H'->Tab T pos (X.env.qual ++ "<lambda>") H'->H f=none->H' f=some (pG f (mK X params body scope c' gF))->H' c'=some (ki c' (X.env.qual ++ "<lambda>"))->Q (.ref f) H'
def Ga (sP:X.env.code=.ref c)(hC:codeHdIn X.K c T=true)(hB:tV X.mg X.base)(oj:∀y∈scope.names,y.2≠.free)(Ht:defaultsOf params X.env=([],[]):=by rfl):PE X (.Lambda params body scope pos) (UT X params body scope pos T):=by
 intro ag s σ H Q I h;obtain⟨⟨ps,hT,ht,Hv⟩,q⟩:=h;refine kla_eval Ht ?_;have NP:s.heap.get? T=some (tabObj ps):=(show cK X.prog X.w H s.heap T (.tX ps) from I.bY T _ hT);have hg:=I.mod.glob.keeps I.bk;have C:=codeHd_of_K I.wU hC;obtain⟨bm,ob,b1,b2,b3,b4,b5,b6,b7⟩:=hB;have Ye:=I.bk _ _ b4;have VH:bm≠T:=λz=>by
  have:=(I.bs _ _ b4).2;rw [z,hT] at this;cases this
 have VE:mainGlobals≠T:=λz=>by
  obtain⟨o,es,ep,e,d,_⟩:=hg;rw [z,NP] at e;cases e;cases d
 have RI:s.heap.BuiltinsAt X.mg T:=⟨bm,ob,b1,b2,b3,VH,Ye,b5,b6,b7⟩;have ID:∀b v,H b=some v->b < s.heap.objs.size:=λb v e=>I.bY.lt e;rcases Hv with Rf | ⟨c',hf,mR⟩
 .refine kla_makeFunction (closureFor_none oj) I.ok.glob hg sP C NP ht Rf VE RI λc' gF h' tk hx NF jd Hj Q0=>?_;have hcr:∃oc,h'.get? c'=some oc:=by
   obtain⟨c2,oc,vs,t,e,zt,_⟩:=Hj;cases e;exact⟨oc,zt⟩
  have sN:h'.objs.size > s.heap.objs.size:=rq NF jd;have keep:∀b o,b≠T->s.heap.get? b=some o->(h'.push (mK X params body scope c' gF)).get? b=some o:=λb o n e=>bG _ (hx b o n e)
  let H':Hp:=upd (upd (upd H T (.tX (ps++#[rawInt pos.line,rawInt pos.col,.ref c']))) c' (ki c' (X.env.qual ++ "<lambda>"))) h'.objs.size (pG h'.objs.size (mK X params body scope c' gF))
  have AA:∀b v,H b=some v->b≠c'/\b≠h'.objs.size:=λb v e=>⟨bD (gr (ID b v e) NF),bD (jA (ID b v e) sN)⟩;have VG:c'≠h'.objs.size:=bD jd;have Qv:=AA T _ hT;have eT:H' T=some (.tX (ps++#[rawInt pos.line,rawInt pos.col,.ref c'])):=by
   show upd (upd (upd H T _) c' _) h'.objs.size _ T=_;rw [ai Qv.2,ai Qv.1,ae]
  have ec:H' c'=some (ki c' (X.env.qual ++ "<lambda>")):=by
   show upd (upd (upd H T _) c' _) h'.objs.size _ c'=_;rw [ai VG,ae]
  have ef:H' h'.objs.size=some (pG h'.objs.size (mK X params body scope c' gF)):=ae;have eo:∀b,b≠T->b≠c'->b≠h'.objs.size->H' b=H b:=λb n1 n2 n3=>by
   show upd (upd (upd H T _) c' _) h'.objs.size _ b=_;rw [ai n3,ai n2,ai n1]
  have sT:cX T H H':=λb o n e=>by rw [eo b n (AA b o e).1 (AA b o e).2];exact e
  have I2:Inv X ag σ H' { s with heap:=h'.push (mK X params body scope c' gF),toks:=tk }:=by
   refine I.call (g':=s.gens) (t':=tk) (d':=s.drawn) (ch:=[]) ⟨λb o e n _ _=>keep b o (λz=>by rw [z,hT] at n;cases n) e,λb o e n _ _=>⟨o.slots,keep b o (λz=>by rw [z,hT] at n;cases n) e⟩,λb o e n _=>?_,λb o e _=>?_,λb xs e=>?_,λb o u e=>?_,λb EK e=>?_⟩ (λb v e=>?_) I.bare (λb hb=>nomatch hb)
   .have lb:=bu e;rw [eo b (λz=>by rw [z,hT] at n;cases n) (bD (gr lb NF)) (bD (jA lb sN))];exact n
   .by_cases z:b=T
    .exact⟨_,by rw [z];exact bG _ Q0⟩
    exact⟨o,keep b o z e⟩
   .exact sT b _ (λz=>by rw [z,hT] at e;cases e) e
   .exact sT b _ (λz=>by rw [z,hT] at e;cases e) e
   .by_cases z:b=T
    .subst z;rw [hT] at e;cases e;exact⟨_,eT⟩
    exact⟨#[],by rw [Array.append_empty];exact sT b _ z e⟩
   by_cases z1:b=h'.objs.size
   .subst z1;rw [ef] at e;cases e;exact qL (cy _ rfl)
   by_cases z2:b=c'
   .subst z2;rw [ec] at e;cases e;refine yU ?_;obtain⟨c2,oc,vs,t,e',zt,hd,hv⟩:=Hj;cases e';exact⟨_,oc,vs,t,rfl,bG _ zt,hd,hv⟩
   by_cases z3:b=T
   .subst z3;rw [eT] at e;cases e;exact bG _ Q0
   rw [eo b z3 z2 z1] at e;refine(I.bY b v e).kW (λd o DM e'=>?_) (λd e'=>sT d _ (λz=>by rw [z,hT] at e';cases e') e') λd ys e'=>sT d _ (λz=>by rw [z,hT] at e';cases e') e';rcases DM with rfl | DM
   .exact keep d o z3 e'
   exact keep d o (λz=>by rw [z,hT] at DM;cases DM) e'
  have fresh:H h'.objs.size=none:=I.bY.fresh (i7 sN);exact⟨.ref h'.objs.size,H',I2,rfl,q _ c' gF H' sT ⟨_,eT,by rw [vC];exact jD _ ht,.inr ⟨c',by rw [vC];exact codeAmong_snoc _ ht Rf,ec⟩⟩ fresh ef ec⟩
 refine kla_makeFunctionHit (closureFor_none oj) I.ok.glob hg sP C NP ht hf RI λgF h' tk hk hsz=>?_;have keep:∀b o,s.heap.get? b=some o->(h'.push (mK X params body scope c' gF)).get? b=some o:=λb o e=>bG _ (hk b o e);have fresh:H h'.objs.size=none:=I.bY.fresh hsz;refine⟨.ref h'.objs.size,_,I.laid (a:=h'.objs.size) (o:=pG h'.objs.size (mK X params body scope c' gF)) (t':=tk) keep hsz (qL (cy _ rfl)),rfl,?_⟩;refine q _ c' gF _ (λb o _ e=>by rw [ai (az e fresh)];exact e) ⟨ps,by rw [ai (az hT fresh)];exact hT,ht,.inr ⟨c',hf,by rw [ai (az mR fresh)];exact mR⟩⟩ fresh ae (by rw [ai (az mR fresh)];exact mR)
end
section
variable {P:Program}{w:World}{K:Frag}{mg:Str->Option Value}{base:Heap}{f c':Addr}{q:Str}{params:Arguments}{body:Expr}{scope:Scope}{pm gF:Value}{N ps:List Str}{k:Nat}{te:TE}
def JZ (S:aI N ps scope)(om:∀us:List Value,us.length=ps.length->bindArgs (kla_fn "<lambda>" q params body scope [] pm (.ref c') gF) ⟨us,[]⟩=pure (ps.zip us))
  (jr:∀(A:Around)(outer:List Env)(s:Shared)(H:Hp),PE (pR fX P w K mg base N q scope f (.ref c') A outer s H λ_ _ _=>False) body te)
  (A:Around)(outer:List Env)(s:Shared)(H:Hp)(us:List Value)(vs:List V)(Q:VK)(hr:fg (k+1) A)(e0:qD P w K mg base A outer s H)(hf:H f=some (pG f (kla_obj "<lambda>" q params body scope [] pm c' gF)))
  (hc:H c'=some (ki c' q))(rv:aY vs us)(hl:vs.length=ps.length)(h:te (start N vs) H Q):codeAny (model P w) A (.call (.ref f) ⟨us,[]⟩) (CR fX outer P w H s Q λ_ _ _=>False) s:=by
 obtain⟨ef,_⟩:=e0.bY f _ hf;obtain⟨ec,_⟩:=e0.bY c' _ hc;have lu:us.length=ps.length:=by rw [<-rv.length];exact hl
 have lim:s.heap.NoLimit:=e0.mod.nolimit.keeps λb o e=>(e0.bs b o e).1;have jo:∀y∈ps.zip us,scope.names.lookup y.1=some .local\/(scope.names.lookup y.1=some .cell/\((cellsFrom (s.heap.objs.size+1) scope.names []).lookup y.1).isSome=true):=λ⟨n,v⟩ hy=>by
  rcases S.par n (List.of_mem_zip hy).1 with z | z
  .exact .inl z
  exact .inr ⟨z,cellsFrom_some _ _ _ (.inl z)⟩
 refine kla_callFunE hr.depth ef rfl S.co S.gen rfl ec ?_;rw [om us lu];refine aH (wpAny_newFunctionEnv_cells S.kind jo λenv he s1 x=>?_);subst he;refine⟨lim.keeps x.toInCall.keep,kla_codeExpr ?_⟩;have I:Inv (pR fX P w K mg base N q scope f (.ref c') A outer s H λ_ _ _=>False) [] (start N vs) H s1:=uP S hr.hd e0 hl rv x;refine dB (jr A outer s H [] s1 (start N vs) H _ I h) (λv s' ⟨y,H',J,r,z⟩=>?_) λe s' z=>z;exact⟨y,H',J.os,J.bare,J.base,J.bY,r,z⟩
end
section
variable {X:Cx}{i:Nat}{x:Str}{e:Expr}{es:List Expr}{t:TA}{p pos:Pos}{q:Str}{params:Arguments}{body:Expr}{scope:Scope}{N ps:List Str}{k:Nat}{te:TE}
def Fc (i:Nat)(q:Str)(params:Arguments)(body:Expr)(scope:Scope) (N ps:List Str)(t:TA)(te:TE):TE:=λσ H Q=>∃f pm c' gF,σ[i]?=some (some (.ref f)) /\
 t σ H λvs H1=>H1 f=some (pG f (kla_obj "<lambda>" q params body scope [] pm c' gF))/\H1 c'=some (ki c' q)/\vs.length=ps.length/\te (start N vs) H1 Q
def Aj (hN:X.N[i]?=some x)(hx:X.env.scope.names.lookup x=some .local)(S:aI N ps scope)(hr:fg (k+1) X.A)
  (om:∀(pm gF:Value)(c':Addr)(us:List Value),us.length=ps.length->bindArgs (kla_fn "<lambda>" q params body scope [] pm (.ref c') gF) ⟨us,[]⟩=pure (ps.zip us))
  (jr:∀(f c':Addr)(A:Around)(outer:List Env)(s:Shared)(H:Hp),PE (pR fX X.prog X.w X.K X.mg X.base N q scope f (.ref c') A outer s H λ_ _ _=>False) body te)(ha:PA X (e::es) t)
  (DL:(x == ("__debug__":Str))=false:=by decide)(he:starEach (e::es) X.env=(false,eval e X.env)::starEach es X.env:=by rfl)(uR:(backTo pos (starEach es X.env)).any (·.1)=false:=by rfl) :
  PE X (.Call (.Name x p) (e::es) [] pos) (Fc i q params body scope N ps t te):=by
 intro ag s σ H Q I h;obtain⟨f,pm,c',gF,hσ,h⟩:=h;obtain⟨m,hn,hl⟩:=I.loc;obtain⟨u,ru,lk⟩:=hl i x (.ref f) hN hσ (.inl hx);cases (show u=Value.ref f from ru);have hm:m x=some (.ref f):=by
  rcases lk with l | ⟨l,_⟩
  .exact l.2
  have l':X.env.scope.names.lookup x=some .cell\/X.env.scope.names.lookup x=some .free:=l;rw [hx] at l';rcases l' with l' | l' <;> cases l'
 refine nj (wpAny_Name (vB I.ok.kind hx hn hm ?_) DL);refine callWith_def (o:=kla_obj "<lambda>" q params body scope [] pm c' gF) rfl (cW (ha pos ag s σ H _ I h) λus s1 ⟨vs,H1,I1,r,z1,z2,z3,z4⟩=>?_) he;obtain⟨ef,_⟩:=I1.bY f _ z1;refine⟨ef,kN (jz (JZ (k:=k) S (λus hl=>om pm gF c' us hl) (jr f c') X.A X.stack s1 H1 us vs Q hr I1.N8 z1 z2 r z3 z4) λr' s' z=>?_)⟩;cases r' with
 | error e=>exact z.elim
 | ok fl =>
  cases fl with
  | ret u=>exact I1.after z
  | next=>exact z.elim
  | brk=>exact z.elim
  | cont=>exact z.elim
end
def Iq (ts:List Addr)(H:Hp):Prop:=∀b,H b=none\/(∃o xs,H b=some (.ku o (.lst xs)))\/(b∈ts/\H b=some (.tX #[]))
def Dy {P:Program}{w:World}{K:Frag}{mg mb:Str->Option Value}{CX:zB}{k:Nat}{fa a:Addr}{fd:FuncData}{x:Str}{sp:Sp}{s₁:Shared}{vs:List Value}{ns:List Int}{ts:List Addr}
  (KX:K.In s₁.heap)(xt:s₁.heap.Ns mainGlobals mg)(hb:s₁.heap.Ns builtinsNs mb)(NM:∀x:Str,x ≠ "__name__" -> mb x=bootBuiltins x)(NA:s₁.heap.NoLimit)
  (hbm:∃bm ob,mg "__builtins__"=some (.ref bm)/\bm≠builtinsNs/\s₁.heap.get? bm=some ob/\ob.cls=.type "module" /\ ob.dict=some builtinsNs/\ob.data=.plain)(hg:s₁.gens=#[])
  (Nr:∀T∈ts,s₁.heap.get? T=some (tabObj #[])/\K.lookup T=none/\∃c,codeHdIn K c T=true)
  (ha:s₁.heap.get? a=some { cls:=.type "list",data:=.seq vs.toArray })(hi:IntsAre vs ns)(hl:ns.length<=sizeLine)(hr:fg k callerA)
  (F:∀base:Heap,K.In base->base.Ns mainGlobals mg->tV mg base->bQ P w K mg base CX k fa fd [x] sp)(om:∀(s:Shared)(u:Value),BindsTo s fd ⟨[u],[]⟩ [(x,u)])
  (zr:∀H:Hp,Iq ts H->(∀T∈ts,H T=some (.tX #[]))->aG K H a (ns.map V.int)->sp [.ref a] H (λv _=>v=.bl true) λ_ _ _=>False)
  (NS:∀H e s',CX [] H s₁ (λ_ _ _=>False) e s'->False) :
  codeAny (model P w) callerA (.call (.ref fa) ⟨[.ref a],[]⟩) (λr s'=>r=.ok (.ret (.bool true))/\OldK s₁.heap s'.heap/\s'.os=s₁.os/\AllBare s'.gens) s₁:=by
 have rv:=pb hi;have Nb:=hi.length;have core:∀H:Hp,Iq ts H->(∀T∈ts,H T=some (.tX #[]))->aG K H a (ns.map V.int)->mi P w H s₁.heap->(∀b,H b≠none->b=a\/b∈ts)->(H a≠none->K.lookup a=none) ->
   codeAny (model P w) callerA (.call (.ref fa) ⟨[.ref a],[]⟩) (λr s'=>r=.ok (.ret (.bool true))/\OldK s₁.heap s'.heap/\s'.os=s₁.os/\AllBare s'.gens) s₁:=by
  intro H hO hT hS bY hA hK;have lP:∀{b:Addr}{o:Obj},s₁.heap.get? b=some o->H b=none->(mQ s₁.heap H).get? b=some o:=λe n=>yy e n;have off:∀{b:Addr}{o:Obj},s₁.heap.get? b=some o->(∀aN n,o.data≠.seq aN n)->(∀fs,o.data≠.fields fs)->H b=none:=λ{b o} e d1 d2=>by
   cases q:H b with
   | none=>rfl
   | some u =>
    rcases hA b (by rw [q];simp) with e' | e'
    .subst e';rw [ha] at e;cases e;exact(d1 _ _ rfl).elim
    rw [(Nr b e').1] at e;cases e;exact(d2 _ rfl).elim
  have JR:∀{b:Addr}{m:Str->Option Value},s₁.heap.Ns b m->(mQ s₁.heap H).Ns b m:=λ{b m} ⟨o,es,ep,e,d,r⟩=>⟨o,es,ep,lP e (off e (λ_ _ z=>by rw [d] at z;cases z) λ_ z=>by rw [d] at z;cases z),d,r⟩;have RF:K.In (mQ s₁.heap H):=λb o e=>lP (KX b o e) (by
   cases q:H b with
   | none=>rfl
   | some u =>
    rcases hA b (by rw [q];simp) with e' | e'
    .subst e';rw [hK (by rw [q];simp)] at e;cases e
    rw [(Nr b e').2.1] at e;cases e)
  have hM:Mod K mg (mQ s₁.heap H):=⟨RF,JR xt,⟨mb,JR hb,NM⟩,let ⟨mc,h1,h2⟩:=NA;⟨mc,JR h1,h2⟩⟩;have RH:tV mg (mQ s₁.heap H):=by
   obtain⟨bm,ob,b1,b2,b3,b4,b5,b6⟩:=hbm;refine⟨bm,ob,b1,b2,λz=>?_,lP b3 (off b3 (λ_ _ z=>by rw [b6] at z;cases z) λ_ z=>by rw [b6] at z;cases z),b4,b5,b6⟩;obtain⟨o,es,ep,e,d,_⟩:=xt;rw [<-z,b3] at e;cases e;rw [b6] at d;cases d
  have e0:qD P w K mg (mQ s₁.heap H) callerA [] s₁ H:=⟨rfl,hM,λb o e=>Cb e,Nat.le_of_eq (uS _ _),trivial,λb hb=>absurd (show b∈([]:List Addr) from hb) (by simp),bY,.of_eq hg⟩;refine jz ((F _ RF (JR xt) RH).run callerA [] s₁ H ⟨[.ref a],[]⟩ [.ref a] [.ref a] _ _ hr e0 (om s₁ (.ref a)) (.cons rfl .nil) (zr H hO hT hS)) λr s' h=>?_;cases r with
  | error e=>exact(NS H e s' h).elim
  | ok fl =>
   cases fl with
   | next=>exact False.elim h
   | brk=>exact False.elim h
   | cont=>exact False.elim h
   | ret u =>
    obtain⟨v,H',os,bare,un,J_,r',q⟩:=h;have q':v=.bl true:=q;subst q';obtain rfl:u=Value.bool true:=r';have each:∀b o,s₁.heap.get? b=some o->asItWas s₁.heap s'.heap b o/\∃o',s'.heap.get? b=some o':=λb o e=>by
     cases q:H b with
     | none =>
      have z:=un.keep b o e q (by intro z;exact absurd (show b∈([]:List Addr) from z) (by simp)) (by simp);exact⟨.inl z,o,z⟩
     | some u =>
      rcases hO b with z | ⟨ob,xs,z⟩ | ⟨IQ,z⟩
      .rw [q] at z;cases z
      .have z2:=un.mS b ob _ z;obtain⟨e1,_⟩:=bY b _ z;obtain⟨e2,_⟩:=J_ b _ z2;rw [e] at e1;cases e1;exact⟨.inl e2,_,e2⟩
      obtain⟨more,z2⟩:=un.nF b _ z;have e2:s'.heap.get? b=some (tabObj (#[]++more)):=J_ b _ z2;rw [(Nr b IQ).1] at e;cases e;obtain⟨c,hc⟩:=(Nr b IQ).2.2;obtain⟨oc,Mc,file,tf,flags,tg,inF,text,tt,d1,d2,d3,d4,_⟩:=codeHd_of_K KX hc;exact⟨.inr (.inl ⟨⟨c,oc,Mc,d1,d2,d3,d4⟩,rfl,#[],more,rfl,e2⟩),_,e2⟩
    exact⟨rfl,⟨λb o e=>(each b o e).1,λb o e=>(each b o e).2⟩,os,bare⟩
 have na:a∉ts:=λz=>by
  have:=(Nr a z).1;rw [ha] at this;cases this
 cases hk:K.lookup a with
 | some o =>
  have e:=KX a o hk;rw [ha] at e;cases e;refine core (λb=>if b∈ts then some (.tX #[]) else none) (λb=>?_) (λT h=>ax h) (.inr ⟨_,vs.toArray,_,hk,rfl,rfl,rfl,by rw [bN,Nb];exact hl,by simpa using rv⟩) (λb u z=>?_) (λb z=>?_) λz=>absurd (aw na) z
  .by_cases h:b∈ts
   .exact .inr (.inr ⟨h,ax h⟩)
   exact .inl (aw h)
  .by_cases h:b∈ts
   .have z':=(ax h).symm.trans z;cases z';exact(Nr b h).1
   have z':=(aw h).symm.trans z;cases z'
  by_cases h:b∈ts
  .exact .inr h
  exact absurd (aw h) z
 | none =>
  refine core (λb=>if b=a then some (.ku { cls:=.type "list",data:=.seq vs.toArray } (.lst (ns.map V.int))) else if b∈ts then some (.tX #[]) else none) (λb=>?_) (λT h=>?_) (.inl (.inr ⟨{ cls:=.type "list",data:=.seq vs.toArray },ax rfl⟩)) (λb u z=>?_) (λb z=>?_) λ_=>hk
  .by_cases hb:b=a
   .exact .inr (.inl ⟨_,_,ax hb⟩)
   by_cases h:b∈ts
   .exact .inr (.inr ⟨h,(aw hb).trans (ax h)⟩)
   exact .inl ((aw hb).trans (aw h))
  .exact(aw (λz:T=a=>na (z ▸ h))).trans (ax h)
  .by_cases hb:b=a
   .have z':=(ax hb).symm.trans z;cases z';subst hb;exact⟨ha,by rw [av];exact hl,vs,_,rv,ha⟩
   by_cases h:b∈ts
   .have z':=((aw hb).trans (ax h)).symm.trans z;cases z';exact(Nr b h).1
   have z':=((aw hb).trans (aw h)).symm.trans z;cases z'
  by_cases hb:b=a
  .exact .inl hb
  by_cases h:b∈ts
  .exact .inr h
  exact absurd ((aw hb).trans (aw h)) z
def E9 {l:OpenLaw}{n k:Nat}{q:Program}{loose:List Str}{XP:(Str->Option Value)->Heap->Prop}{YP:World->Heap->Prop}{d:DefRec}{K:Params->Frag}{CX:World->zB}{sp:World->Sp}{x:Str}{ts:List Addr}
  (hn:l.most=some n)(Hn:n<=sizeLine)(NI:d.params.defaults=[])(hr:fg k callerA)
  (hY:∀(w:World)(h:Heap),YP w h->(K w.params).In h/\∀T∈ts,h.get? T=some (tabObj #[]))
  (hK:∀w:World,∀T∈ts,(K w.params).lookup T=none/\∃c,codeHdIn (K w.params) c T=true)
  (F:∀(w:World)(mg:Str->Option Value)(fa:Addr)(h:Heap),(K w.params).In h->h.Ns mainGlobals mg->mg d.name=some (.ref fa) ->
   ∃fd:FuncData,(∀(s:Shared)(u:Value),BindsTo s fd ⟨[u],[]⟩ [(x,u)]) /\
    ∀base:Heap,(K w.params).In base->base.Ns mainGlobals mg->tV mg base->bQ l.prog w (K w.params) mg base (CX w) k fa fd [x] (sp w))
  (zr:∀(w:World)(H:Hp)(a:Addr)(ns:List Int),ns.length<=n->Iq ts H->(∀T∈ts,H T=some (.tX #[]))->aG (K w.params) H a (ns.map V.int)->sp w [.ref a] H (λv _=>v=.bl true) λ_ _ _=>False)
  (NS:∀(w:World)(H:Hp)(s:Shared)(e:Value)(s':Shared),CX w [] H s (λ_ _ _=>False) e s'->False) :
  WalkO q loose XP YP l.row.toRowW d [] (λf vs=>PySem.call f vs):=by
 refine Je.qo hn NI λw s₀ s₁ mg mb fa o pm cd doc a vs ns G Y ho hd wY Nz Hk hints br hg=>?_;obtain⟨KX,TX⟩:=hY w _ Y;obtain⟨fd,hb,hF⟩:=F w mg fa _ KX G.T.g Nz;exact Dy KX G.T.g G.T.b G.T.builtins G.T.nolimit G.T.bmain hg (λT hT=>⟨TX T hT,hK w T hT⟩) Hk hints (dH br Hn) hr hF hb (λH hO hT hS=>zr w H a ns br hO hT hS) λH e s'=>NS w H s₁ e s'
def a9 {X:Cx}{scope:Scope}{js:List (Nat×Str)}(h:(js.all λp=>X.N[p.1]? == some p.2 && X.env.scope.names.lookup p.2 == some .cell && scope.names.lookup p.2 == some .free)=true)
  (h2:(scope.names.all λy=>y.2 != .free || X.env.scope.names.lookup y.1 == some .cell)=true):KO X scope js:=by
 refine⟨λp hp=>?_,λy hy=>?_⟩
 .have:=gq.mp h p hp;simp only [kR,beq_iff_eq] at this;exact⟨this.1.1,this.1.2,this.2⟩
 have:=gq.mp h2 _ hy;simpa using this
def yB {σ:St}{H:Hp}{A B:Hp->Prop}(h:A H):hV σ H λb H3=>if b=true then A H3 else B H3:=by
 show if true=true then A H else B H;exact g8 h
def goN {i:Nat}{v:V}{σ:St}{H:Hp}{Q:St->Hp->Prop}(h:Q (σ.set i (some v)) H):dJ i v σ H Q:=h
def Ia (ns:List Int)(lo hi:Option Int):∃Vy:List Int,gp (ns.map V.int) lo hi=Vy.map V.int/\(∀n∈Vy,n∈ns)/\Vy.length<=ns.length :=
 ⟨(ns.drop (HT.fu (ns.map V.int).length 0 lo)).take (HT.fu (ns.map V.int).length (ns.map V.int).length hi - HT.fu (ns.map V.int).length 0 lo),by unfold gp;rw [<-List.map_drop,<-oP],λn hn=>List.mem_of_mem_drop (qS hn),by rw [dC,mv];omega⟩
def Ha {X:Cx}(K:a8)(hK:X.K=K:=by rfl):KJ X (Qb K):=by
 subst hK;exact bS
def jS {X:Cx}(K:a8)(hK:X.K=K:=by rfl):KJ X (Qa K):=by
 subst hK;exact bq
def fc {X:Cx}{es:List Expr}{k:Nat}{t:LU}{n:Nat}{pos:Pos}(K:a8)(hc:X.calm=true)(h:So X es t)(hK:X.K=K:=by rfl)
  (hn:(assignEach es X.env).length=n:=by rfl)(mY:(assignEach es X.env).findIdx? (·.1)=none:=by rfl):PG X (.Tuple es k pos) (AW K n t):=by
 subst hK;exact gO hc h hn mY
end L2
section
variable {P:PySem.Program}{w:PySem.World}{K:a8}{mg:PySem.Str->Option PySem.Value}{base:PySem.Heap}{f:PySem.Addr}{fd:PySem.FuncData}
namespace gR
open PySem L2
def top (i:Nat):Stmt:=PySem.Challenge.pw_wright_k67_trees_of_deeds.main.body.getD i (.Pass ⟨0,0,0,0⟩)
abbrev z5:Stmt:=top 2
abbrev zT:Stmt:=top 3
abbrev sj:Stmt:=top 14
abbrev wc:Stmt:=top 15
abbrev z8:Stmt:=top 16
abbrev FA:Stmt:=top 26
abbrev zW:Stmt:=top 27
abbrev Mw:Stmt:=top 28
abbrev r_:Stmt:=top 30
abbrev wj:Stmt:=top 31
abbrev nV:Stmt:=top 32
abbrev wb:Stmt:=top 35
abbrev zU:Stmt:=top 36
abbrev My:Stmt:=top 37
abbrev FC:Stmt:=top 44
abbrev Fy:Stmt:=top 4
abbrev Mx:Stmt:=top 5
abbrev nW:Stmt:=top 39
abbrev pC:Stmt:=top 40
abbrev sg:Stmt:=top 41
abbrev sLT:Stmt:=top 42
structure Txt (mg:Str->Option Value):Prop where
 len:mg "len"=none
 CZ:mg "range"=none
 ER:mg "isinstance"=none
 tup:mg "tuple"=none
 lst:mg "list"=none
 A_:mg "dict"=none
 all:mg "all"=none
 any:mg "any"=none
 str:mg "str"=none
 int:mg "int"=none
 boo:mg "bool"=none
 Kk:mg "enumerate"=none
 sum:mg "sum"=none
 max:mg "max"=none
 min:mg "min"=none
section
def boot_all:bootBuiltins "all"=some (.builtin "all"):=by decide +kernel
def dY:bootBuiltins "list"=some (.type "list"):=by decide +kernel
def jw:bootBuiltins "str"=some (.type "str"):=by decide +kernel
def fM:bootBuiltins "dict"=some (.type "dict"):=by decide +kernel
def AH:PySem.W.kitOne K (.type "int") (.type "bool")=some false:=by kernel_rfl
end
end gR
namespace L2
open PySem
def aW {K:a8}{H:Hp}{D a:Addr}{xs ys:List V}{o:HO}(hD:H D=some (.lst ys))(h:aR K H a xs):aR K (upd H D o) a xs:=by
 rcases h with (h | ⟨u,h⟩) | h
 .exact .inl (.inl (by rw [ai (λz=>by rw [z,hD] at h;cases h)];exact h))
 .exact .inl (.inr ⟨u,by rw [ai (λz=>by rw [z,hD] at h;cases h)];exact h⟩)
 exact .inr h
def xj (kvs:List (aL×V))(k:aL):(kvs.any λkv=>decide (kv.1=k))=true↔k∈kvs.map (·.1):=by
 rw [List.any_eq_true,cx];constructor
 .rintro⟨x,h1,h2⟩;exact⟨x,h1,dw h2⟩
 rintro⟨x,h1,h2⟩;exact⟨x,h1,bM h2⟩
def Ad {kvs:List (aL×V)}{k:aL}{v:V}(h:k∈kvs.map (·.1)):(bK kvs k v).map (·.1)=kvs.map (·.1):=by
 unfold bK;rw [ax ((xj kvs k).mpr h),iU];refine List.map_congr_left λx hx=>?_;show (if x.1=k then (x.1,v) else x).1=x.1
 split <;> rfl
def iA {kvs:List (aL×V)}{k:aL}{v:V}(h:¬k∈kvs.map (·.1)):(bK kvs k v).map (·.1)=kvs.map (·.1)++[k]:=by
 unfold bK;rw [aw (λz=>h ((xj kvs k).mp z)),bF];rfl
def dP (kvs:List (aL×V))(k:aL):(bf kvs k).isSome=true↔k∈kvs.map (·.1):=by
 rw [<-jh];exact xj kvs k
theorem cq {α β γ:Type}{F:α->β->Prop}{G:α->γ->Prop}{φ:β->γ}:∀{xs:List α}{ys:List β},Paired F xs ys->(∀a b,F a b->G a (φ b))->Paired G xs (ys.map φ)
 | _,_,.nil,_=>.nil
 | _,_,.cons h t,k=>.cons (k _ _ h) (cq t k)
def cM {z:Str}{l:List Str}:(Sum.inr z:aL)∈l.map Sum.inr↔z∈l:=by
 rw [cx];constructor
 .rintro⟨x,h1,h2⟩;rw [<-mj h2];exact h1
 intro h;exact⟨z,h,rfl⟩
end L2
namespace M11
abbrev au:=PySem.Str×List PySem.Str
def ie (a:List PySem.Str)(h:PySem.Str):List PySem.Str:=if h∈a then a else a++[h]
def xc (bH hs:List PySem.Str):List PySem.Str:=hs.foldl ie bH
def addW (a7 a:List PySem.Str)(p:PySem.Str):List PySem.Str:=if p∈a7 then a else ie a p
def tW (a7 bH ps:List PySem.Str):List PySem.Str:=ps.foldl (addW a7) bH
def ON (aa:List au)(name:PySem.Str) (k:Nat):Bool:=decide ((aa[k]?.map (·.1))=some name)
def nums (aa:List au)(name:PySem.Str) (i:Nat):List Int:=((List.range i).filter (ON aa name)).map λk:Nat=>(k:Int)
def Ds (aa:List au)(name:PySem.Str) (i:Nat):nums aa name (i+1)=nums aa name i++(if ON aa name i=true then [(i:Int)] else []):=by
 unfold nums;rw [List.range_succ,o8,bF]
 congr 1
 by_cases h:ON aa name i=true
 .rw [ax h];simp [h]
 rw [aw h];simp [h]
def yi (aa:List au)(name:PySem.Str) (i:Nat):(nums aa name i).length<=i:=by
 unfold nums;rw [av];have:=rE (ON aa name) (List.range i);rw [mx] at this;exact this
def y_ (a:List PySem.Str)(h:PySem.Str):(ie a h).length<=a.length+1:=by
 unfold ie;split <;> simp
theorem iD:∀(hs bH:List PySem.Str),(xc bH hs).length<=bH.length+hs.length
 | [],bH=>by simp [xc]
 | h::r,bH=>by
  have:=iD r (ie bH h);have:=y_ bH h;show (xc (ie bH h) r).length<=_;rw [dQ];omega
def Ig (a7 a:List PySem.Str)(p:PySem.Str):(addW a7 a p).length<=a.length+1:=by
 unfold addW;split
 .omega
 exact y_ a p
theorem vO (a7:List PySem.Str):∀(ps bH:List PySem.Str),(tW a7 bH ps).length<=bH.length+ps.length
 | [],bH=>by simp [tW]
 | p::r,bH=>by
  have:=vO a7 r (addW a7 bH p);have:=Ig a7 bH p;show (tW a7 (addW a7 bH p) r).length<=_;rw [dQ];omega
end M11
namespace gR
open PySem L2 M11
def lh {bH:List (aL×V)}{as:List Str}(e:bH.map (·.1)=as.map Sum.inr)(h:Str){v:V}:(bK bH (Sum.inr h) v).map (·.1)=(ie as h).map Sum.inr:=by
 unfold ie;by_cases q:h∈as
 .rw [ax q,Ad (by rw [e];exact cM.mpr q),e]
 rw [aw q,iA (by rw [e];exact λz=>q (cM.mp z)),e,bF];rfl
theorem n8:∀(hs:List Str)(bH:List (aL×V)) (as:List Str),bH.map (·.1)=as.map Sum.inr->(c_ (hs.map λh=>((Sum.inr h:aL),V.bl true)) bH).map (·.1)=(xc as hs).map Sum.inr
 | [],bH,as,e=>e
 | h::r,bH,as,e=>by
  refine n8 r (bK bH (Sum.inr h) (.bl true)) (ie as h) ?_;exact lh e h
def keys_str {kvs:List (aL×V)}{zs:List Str}(e:kvs.map (·.1)=zs.map Sum.inr):(kvs.map λp=>kV p.1)=zs.map V.str:=by
 have e2:(kvs.map λp=>kV p.1)=(kvs.map (·.1)).map kV:=by rw [iU];rfl
 rw [e2,e,iU];rfl
section
def CF (K:a8)(H:Hp)(r:Addr)(ru:au):Prop:=∃p,aR K H r [.str ru.1,.ref p]/\aR K H p (ru.2.map V.str)
def bI (K:a8)(H:Hp)(rs:List Addr)(aa:List au):Prop:=Paired (λr ru=>CF K H r ru) rs aa
def bI.keep {H H':Hp}{rs:List Addr}{aa:List au}(h:bI K H rs aa)(k:∀a xs,aR K H a xs->aR K H' a xs):bI K H' rs aa:=Paired.eI h λr ru ⟨p,a,b⟩=>⟨p,k _ _ a,k _ _ b⟩
def bI.same {H H':Hp}{rs:List Addr}{aa:List au}(h:bI K H rs aa)(s:aB H H'):bI K H' rs aa:=h.keep λ_ _ z=>s.tup z
def bI.get {H:Hp}{rs:List Addr}{aa:List au}(h:bI K H rs aa){i:Nat}{r:Addr}(e:rs[i]?=some r):∃ru,aa[i]?=some ru/\CF K H r ru:=by
 have l:=a_ h;have li:=(bj.mp e).1;have e2:aa[i]?=some (aa[i]'(by omega)):=b9 (by omega);obtain⟨x,e3,e4⟩:=Paired.at_ h i _ e2;rw [e] at e3;cases e3;exact⟨_,e2,e4⟩
def tK {H:Hp}{R D:Addr}{rs:List Addr}{aa:List au}{σ:St}{Qp:Hp->Prop}(hR:aG K H R (rs.map V.ref))(cS:bI K H rs aa)(br:aa.length<=1000)(hD:H D=none)
  (q:∀ts H2,aB H H2->H2 D=some (.lst (ts.map V.ref))->Paired (λt h=>aR K H2 t [.str h,.bl true]) ts (aa.map (·.1))->Qp H2) :
  ∃W:Nat->Nat->List V->St->Hp->Prop,(∃m,W 0 m [] (dN ["head","parts"] [] σ) (upd H D (.lst []))) /\
 ∀i m ys σ' H,W i m ys σ' H->((kj K R).stop i H/\Qp H)\/((kj K R).go i H/\∃m',m' < m/\∀x H',(kj K R).mD i H x H'->AW K 2 (jt (dJ 0) (jt (dJ 1) DR)) x σ' H' λσ2 H2=>hV σ2 H2 λb H3 =>
  if b=true then ua (gL (gC 0) (gL (tC (.bl true)) rM)) σ2 H3 λy H4=>H4 D=some (.lst ys)/\ys.length < sizeLine/\W (i+1) m' (ys++[y]) σ2 (upd H4 D (.lst (ys++[y]))) else W (i+1) m' ys σ2 H3):=by
 have ll:=a_ cS;refine cH (xs:=rs.map V.ref) (λi ys σ2 H2=>∃ts:List Addr,ys=ts.map V.ref/\ts.length=i/\Paired (λt h=>aR K H2 t [.str h,.bl true]) ts ((aa.take i).map (·.1))/\(∃y0 y1,σ2=[y0,y1])/\aB H H2/\H2 D=some (.lst ys))
  ⟨[],rfl,rfl,.nil,⟨none,none,rfl⟩,af hD _,ae⟩ (λi ys σ2 H2 _ h=>?_) (λi x ys σ2 H2 ex h=>?_) (λys σ2 H2 h=>?_)
 .obtain⟨_,_,_,_,_,sm,_⟩:=h;exact sm.seq hR
 .obtain⟨ts,rfl,ht,hp,⟨y0,y1,rfl⟩,sm,hd⟩:=h;rw [bo] at ex;obtain⟨r,er,rfl⟩:=cf.mp ex;obtain⟨ru,e1,p,v1,v2⟩:=cS.get er;have li:=(bj.mp e1).1;refine⟨r,_,rfl,sm.tup v1,rfl,_,_,rfl,_,_,rfl,rfl,?_⟩;refine yB ?_;refine⟨_,rfl,oJ,λt jy=>⟨?_,bE (by rw [av];omega),ts++[t],?_,?_,?_,⟨_,_,rfl⟩,?_,ae⟩⟩
  .rw [ai (az hd jy)];exact hd
  .rw [bF];rfl
  .rw [bp,ht];rfl
  .rw [cP,e1,bF];have je:upd H2 t (.tup [.str ru.1,.bl true]) D=some (.lst (ts.map V.ref)):=by rw [ai (az hd jy)];exact hd
   exact gW (Paired.eI hp λt' h' z=>aW je ((af jy _).tup z)) (aW je (aR.of ae))
  intro b o hb;rw [ai (λz=>by rw [z,hD] at hb;cases hb)];exact af jy _ _ _ (sm b o hb)
 obtain⟨ts,rfl,ht,hp,_,sm,hd⟩:=h;rw [av,ll,cO] at hp;exact q ts H2 sm hd hp
def jF (K:a8):Sp:=λvs H Q _=>∃(R:Addr)(rs:List Addr)(aa:List au),vs=[.ref R]/\aG K H R (rs.map V.ref)/\bI K H rs aa/\aa.length<=1000 /\
 ∀D H',H D=none->aB H H'->H' D=some (.lst ((xc [] (aa.map (·.1))).map V.str))->Q (.ref D) H'
def Jr:aI ["rules"] ["rules"] (ay z5):=iS rfl rfl rfl rfl (by decide +kernel)
def Gu (F:ix K "heads_of" "heads_of" z5 f fd)(T:Txt mg):bQ P w K mg base fX 1 f fd ["rules"] (jF K):=by
 refine F.ok Jr (λvs H Q E h=>?_) (λeJ A outer s H vs Q E hr h=>?_)
 .obtain⟨R,rs,aa,rfl,_⟩:=h;rfl
 obtain⟨R,rs,aa,rfl,hR,cS,br,q⟩:=h;refine⟨_,ak (aQ (aV (mV rfl) rfl T.lst dY (ab (aV (dO rfl) rfl T.A_ fM (ab
  (ba ["head","parts"] [] rfl (aX (pv 0)) (a9 rfl rfl) (by decide +kernel) rfl (by decide +kernel)
   (λ_ _ _ _ _=>fc (n:=2) K rfl (aA (ao (i:=0) (show (["head","parts"]:List Str).Nodup by decide +kernel) rfl (bA rfl)) (aA (ao (i:=1) (show (["head","parts"]:List Str).Nodup by decide +kernel) rfl (bA rfl)) bU))) (λ_ _ _ _ _=>bO)
   (λ_ _ _ _ _=>bR (ab (pv 0) (ab dU ah)))) ah)) ah))),?_⟩
 dsimp only [Ba];refine⟨_,rfl,R,rfl,⟨_,hR⟩,λD hD=>tK hR cS br hD λts H2 sm hd hp=>?_⟩;have kp:Paired (λt (kv:aL×V)=>aR K H2 t [kV kv.1,kv.2]) ts ((aa.map (·.1)).map λh=>((Sum.inr h:aL),V.bl true)):=cq hp λ_ _ z=>z;refine⟨D,ts,_,rfl,hd,kp,λd hd2=>?_⟩;refine⟨d,_,rfl,ae,λD2 i4=>?_⟩;rw [keys_str (n8 (aa.map (·.1)) [] [] rfl)];have nd:D2≠d:=λz=>by rw [z,ae] at i4;cases i4
 exact q D2 _ (sm.free (by rw [ai nd] at i4;exact i4)) (sm.trans ((af hd2 _).trans (af i4 _))) ae
theorem ju:∀(aa:List au) (n:Nat),aa.length<=n->(∀ru∈aa,ru.2.length<=8)->(aa.flatMap (·.2)).length<=8 * n
 | [],n,_,_=>by simp
 | ru::r,n,hl,h=>by
  rw [dQ] at hl;have:=ju r (n - 1) (by omega) λx hx=>h x (cV _ hx);have:=h ru cI;rw [vv,bp];omega
def hd (aa:List au):List Str:=xc [] (aa.map (·.1))
def BG (K:a8):Sp:=λvs H Q _=>∃(R:Addr)(rs:List Addr)(aa:List au),vs=[.ref R]/\aG K H R (rs.map V.ref)/\bI K H rs aa/\aa.length<=1000/\(∀ru∈aa,ru.2.length<=8) /\
 ∀D H',H D=none->aB H H'->H' D=some (.lst ((tW (hd aa) [] (aa.flatMap (·.2))).map V.str))->Q (.ref D) H'
def lJ:aI ["rules","heads","words","head","parts","part"] ["rules"] (ay zT):=iS rfl rfl rfl rfl (by decide +kernel)
def Gj (F:ix K "words_in" "words_in" zT f fd)(T:Txt mg):bQ P w K mg base fX 1 f fd ["rules"] (BG K):=by
 refine F.ok lJ (λvs H Q E h=>?_) (λeJ A outer s H vs Q E hr h=>?_)
 .obtain⟨R,rs,aa,rfl,_⟩:=h;rfl
 obtain⟨R,rs,aa,rfl,hR,cS,br,h8,q⟩:=h;have hu:=fV hr;refine⟨_,aj (aC (i:=1) lJ.nd rfl (bA rfl) (aV (dO rfl) rfl T.A_ fM (ab
  (ba ["head","parts"] [] rfl (aX (pv 0)) (a9 rfl rfl) (by decide +kernel) rfl (by decide +kernel)
   (λ_ _ _ _ _=>fc (n:=2) K rfl (aA (ao (i:=0) (show (["head","parts"]:List Str).Nodup by decide +kernel) rfl (bA rfl)) (aA (ao (i:=1) (show (["head","parts"]:List Str).Nodup by decide +kernel) rfl (bA rfl)) bU))) (λ_ _ _ _ _=>bO)
   (λ_ _ _ _ _=>bR (ab (pv 0) (ab dU ah)))) ah)))
  (aj (aC (i:=2) lJ.nd rfl (bA rfl) gP)
  (aj (bJ b8 rfl (aX (pv 0)) (gO rfl (aA (ao (i:=3) lJ.nd rfl (bA rfl)) (aA (ao (i:=4) lJ.nd rfl (bA rfl)) bU)))
   (ak (bJ b8 rfl (fA (pv 4)) (ao (i:=5) lJ.nd rfl (bA rfl))
    (ak (bT (dG (dW hu (pv 5) (pv 1))) (ak (iB hu (pv 2) (pv 5) dU rfl)) aS)))))
  (ak (aQ (aV (mV rfl) rfl T.lst dY (ab (pv 2) ah)))))),?_⟩
 nofun
 refine⟨_,rfl,R,rfl,⟨_,hR⟩,λD hD=>tK hR cS br hD λts H2 sm hd2 hp=>?_⟩;have kp:Paired (λt (kv:aL×V)=>aR K H2 t [kV kv.1,kv.2]) ts ((aa.map (·.1)).map λh=>((Sum.inr h:aL),V.bl true)):=cq hp λ_ _ z=>z;refine⟨D,ts,_,rfl,hd2,kp,λd hdd=>?_⟩;have Lf:(c_ ((aa.map (·.1)).map λh=>((Sum.inr h:aL),V.bl true)) []).map (·.1)=(hd aa).map Sum.inr:=n8 (aa.map (·.1)) [] [] rfl;generalize c_ ((aa.map (·.1)).map λh=>((Sum.inr h:aL),V.bl true)) []=kH at Lf ⊢;have OG:=sm.trans (af hdd (.dK kH));have je:upd H2 d (.dK kH) d=some (.dK kH):=ae;generalize upd H2 d (.dK kH)=H3 at OG je;intro e he;have hde:∀o,upd H3 e o d=some (.dK kH):=λo=>by rw [ai (az je he)];exact je
 have BV:∀o,aB H (upd H3 e o):=λo=>OG.trans (af he o);have ll:=a_ cS;refine⟨_,rfl,R,rfl,⟨_,(BV _).seq hR⟩,cQ (xs:=rs.map V.ref) (λi σ H5=>∃(kvs:List (aL×V))(y3 y4 y5:Option V),σ=[aM R,aM d,aM e,y3,y4,y5]/\H5=upd H3 e (.dK kvs) /\
  kvs.map (·.1)=(tW (hd aa) [] ((aa.take i).flatMap (·.2))).map Sum.inr) ⟨[],none,none,none,rfl,rfl,rfl⟩ ?_ ?_ ?_⟩
 .rintro i σ H5 _ ⟨kvs,y3,y4,y5,rfl,rfl,_⟩;exact(BV _).seq hR
 .rintro i x σ H5 ex ⟨kvs,y3,y4,y5,rfl,rfl,hk⟩
  ac_nf0
  rw [bo] at ex;obtain⟨r,er,rfl⟩:=cf.mp ex;obtain⟨ru,e1,p,v1,v2⟩:=cS.get er;have li:=(bj.mp e1).1;have OW:=h8 ru (bZ e1);have eT:(aa.take (i+1)).flatMap (·.2)=(aa.take i).flatMap (·.2)++ru.2:=by
   rw [cP,e1,pZ];simp
  have lA:((aa.take i).flatMap (·.2)).length<=8 * i:=ju (aa.take i) i (by rw [dC];omega) λru iR=>h8 ru (qS iR);refine⟨r,_,rfl,(BV _).tup v1,rfl,_,_,rfl,_,_,rfl,rfl,?_⟩;refine⟨_,rfl,p,rfl,⟨_,(BV _).tup v2⟩,oy (xs:=ru.2.map V.str) (λj σ H6=>∃(kvs:List (aL×V))(y5:Option V),σ=[aM R,aM d,aM e,some (.str ru.1),aM p,y5]/\H6=upd H3 e (.dK kvs) /\
   kvs.map (·.1)=(tW (hd aa) [] ((aa.take i).flatMap (·.2)++ru.2.take j)).map Sum.inr) ⟨kvs,_,rfl,rfl,by rw [oS,ir];exact hk⟩ ?_ ?_ ?_⟩
  .rintro j σ H6 _ ⟨kvs,y5,rfl,rfl,_⟩;exact(BV _).tup v2
  .rintro j x σ H6 pN ⟨kvs,y5,rfl,rfl,DJ⟩
   ac_nf0
   rw [bo] at pN;obtain⟨z,ez,rfl⟩:=cf.mp pN;have lj:=(bj.mp ez).1;have eS:tW (hd aa) [] ((aa.take i).flatMap (·.2)++ru.2.take (j+1))=addW (hd aa) (tW (hd aa) [] ((aa.take i).flatMap (·.2)++ru.2.take j)) z:=by
    rw [cP,ez,<-lU];exact vw
   have lk:kvs.length<=8 * i+8:=by
    have h1:kvs.length=(tW (hd aa) [] ((aa.take i).flatMap (·.2)++ru.2.take j)).length:=by
     have:=congrArg List.length DJ;rw [av,av] at this;exact this
    have h2:=vO (hd aa) ((aa.take i).flatMap (·.2)++ru.2.take j) [];rw [bp,dC] at h2;simp only [iW] at h2;omega
   have mem:(bf kH (Sum.inr z)).isSome=true↔z∈hd aa:=by rw [dP,Lf];exact cM
   refine⟨_,rfl,_,rfl,d,_,rfl,bW.k (k:=Sum.inr z) (hde _),_,rfl,?_⟩;refine cD (λc=>?_) (λc=>?_)
   .have nm:z∉hd aa:=λh=>by rw [mem.mpr h] at c;exact absurd c (by decide)
    refine⟨_,rfl,_,rfl,e,_,rfl,pV.k (k:=Sum.inr z) ae (bE (by omega)),?_⟩;refine⟨bK kvs (Sum.inr z) (.bl true),_,rfl,by rw [nE],?_⟩;rw [eS];unfold addW;rw [aw nm];exact lh DJ z
   have im:z∈hd aa:=mem.mp (by
    cases h:(bf kH (Sum.inr z)).isSome with
    | true=>rfl
    | false=>exact absurd (by rw [h];rfl) c)
   refine⟨kvs,_,rfl,rfl,?_⟩;rw [eS];unfold addW;rw [ax im];exact DJ
  rintro σ H6 ⟨kvs,y5,rfl,rfl,DJ⟩;rw [av,cO,<-eT] at DJ;exact⟨kvs,_,_,_,rfl,rfl,DJ⟩
 rintro σ H5 ⟨kvs,y3,y4,y5,rfl,rfl,hk⟩;rw [av,ll,cO] at hk;refine⟨_,rfl,e,_,rfl,ae,λD2 i4=>?_⟩;rw [keys_str hk];exact q D2 _ ((BV _).free i4) ((BV _).trans (af i4 _)) ae
end
end gR
namespace L2
open PySem
section
variable {K:a8}{a D:Addr}{xs:List V}{ts:List Str}{js:List (Nat×Str)}{g:TG}{tif:TT}{te:TE}{R:Hp->Prop}{σ:St}{H:Hp}
def gA (Pv:Nat->List V->St->Hp->Prop)(h0:Pv 0 [] (dN ts js σ) (upd H D (.lst [])))(hl:∀i ys σ H,i<=xs.length->Pv i ys σ H->aR K H a xs)
  (hs:∀i x ys σ H,xs[i]?=some x->Pv i ys σ H->g x σ H λσ2 H2=>tif σ2 H2 λb H3=>if b=true then te σ2 H3 λy H4=>H4 D=some (.lst ys)/\ys.length < sizeLine/\Pv (i+1) (ys++[y]) σ2 (upd H4 D (.lst (ys++[y]))) else Pv (i+1) ys σ2 H3)
  (hd:∀ys σ H,Pv xs.length ys σ H->R H) :
  ∃W:Nat->Nat->List V->St->Hp->Prop,(∃m,W 0 m [] (dN ts js σ) (upd H D (.lst []))) /\
 ∀i m ys σ' H,W i m ys σ' H->((oI K a).stop i H/\R H)\/((oI K a).go i H/\∃m',m' < m/\∀x H',(oI K a).mD i H x H'->g x σ' H' λσ2 H2=>tif σ2 H2 λb H3 =>
  if b=true then te σ2 H3 λy H4=>H4 D=some (.lst ys)/\ys.length < sizeLine/\W (i+1) m' (ys++[y]) σ2 (upd H4 D (.lst (ys++[y]))) else W (i+1) m' ys σ2 H3):=by
 refine⟨λi m ys σ H=>m=xs.length - i/\i<=xs.length/\Pv i ys σ H,⟨xs.length,by simp,fh _,h0⟩,?_⟩;rintro i m ys σ' H ⟨rfl,hi,p⟩;have q:=hl i ys σ' H hi p;by_cases jd:i < xs.length
 .refine .inr ⟨⟨xs,xs[i],q,by simp [jd]⟩,xs.length - (i+1),by omega,λx H' y=>?_⟩;obtain⟨e,y⟩:=y;subst e;have z:=hs i x ys σ' _ (y xs q) p;have h1:(i+1<=xs.length)=True:=eq_true jd;simp only [h1,true_and];exact z
 have e:i=xs.length:=by omega
 subst e;exact .inl ⟨⟨xs,q,aD _⟩,hd ys σ' H p⟩
def yS (Pv:Nat->List V->St->Hp->Prop)(h0:Pv 0 [] (dN ts js σ) (upd H D (.lst [])))(hl:∀i ys σ H,i<=xs.length->Pv i ys σ H->aR K H a xs)
  (hs:∀i x ys σ H t,xs[i]?=some x->Pv i ys σ H->H t=none->g (.ref t) σ (upd H t (.tup [.int (i:Int),x])) λσ2 H2=>tif σ2 H2 λb H3=>if b=true then te σ2 H3 λy H4=>H4 D=some (.lst ys)/\ys.length < sizeLine/\Pv (i+1) (ys++[y]) σ2 (upd H4 D (.lst (ys++[y]))) else Pv (i+1) ys σ2 H3)
  (hd:∀ys σ H,Pv xs.length ys σ H->R H) :
  ∃W:Nat->Nat->List V->St->Hp->Prop,(∃m,W 0 m [] (dN ts js σ) (upd H D (.lst []))) /\
 ∀i m ys σ' H,W i m ys σ' H->((tU K a).stop i H/\R H)\/((tU K a).go i H/\∃m',m' < m/\∀x H',(tU K a).mD i H x H'->g x σ' H' λσ2 H2=>tif σ2 H2 λb H3 =>
  if b=true then te σ2 H3 λy H4=>H4 D=some (.lst ys)/\ys.length < sizeLine/\W (i+1) m' (ys++[y]) σ2 (upd H4 D (.lst (ys++[y]))) else W (i+1) m' ys σ2 H3):=by
 refine⟨λi m ys σ H=>m=xs.length - i/\i<=xs.length/\Pv i ys σ H,⟨xs.length,by simp,fh _,h0⟩,?_⟩;rintro i m ys σ' H ⟨rfl,hi,p⟩;have q:=hl i ys σ' H hi p;by_cases jd:i < xs.length
 .refine .inr ⟨⟨xs,xs[i],q,by simp [jd]⟩,xs.length - (i+1),by omega,λx H' y=>?_⟩;obtain⟨t,y0,rfl,ht,rfl,y⟩:=y;have z:=hs i y0 ys σ' _ t (y xs q) p ht;have h1:(i+1<=xs.length)=True:=eq_true jd;simp only [h1,true_and];exact z
 have e:i=xs.length:=by omega
 subst e;exact .inl ⟨⟨xs,q,aD _⟩,hd ys σ' H p⟩
end
def lF {K:a8}{a:Addr}{xs:List V}{g:TG}{tb:TS}{D:Ends}{σ:St}{H:Hp}(Pv:Nat->St->Hp->Prop)(h0:Pv 0 σ H)(hl:∀i σ H,i<=xs.length->Pv i σ H->aG K H a xs)
  (hs:∀i x σ H t,xs[i]?=some x->Pv i σ H->H t=none->g (.ref t) σ (upd H t (.tup [.int (i:Int),x])) λσ2 H2=>tb { D with nx:=Pv (i+1),ct:=Pv (i+1),bk:=D.nx } σ2 H2)(hd:∀σ H,Pv xs.length σ H->D.nx σ H) :
  ∃W:Nat->Nat->St->Hp->Prop,(∃m,W 0 m σ H)/\∀i m σ H,W i m σ H ->
   ((Ss K a).stop i H/\D.nx σ H)\/((Ss K a).go i H/\∃N:St->Hp->Prop,(∀σ' H',N σ' H'->∃m',m' < m/\W (i+1) m' σ' H')/\∀x H',(Ss K a).mD i H x H'->g x σ H' λσ2 H2=>tb { D with nx:=N,ct:=N,bk:=D.nx } σ2 H2):=by
 refine⟨λi m σ H=>m=xs.length - i/\i<=xs.length/\Pv i σ H,⟨xs.length,by simp,fh _,h0⟩,?_⟩;rintro i m σ H ⟨rfl,hi,p⟩;have q:=hl i σ H hi p;by_cases jd:i < xs.length
 .refine .inr ⟨⟨xs,xs[i],q,by simp [jd]⟩,Pv (i+1),λσ' H' p'=>⟨xs.length - (i+1),by omega,rfl,jd,p'⟩,λx H' y=>?_⟩;obtain⟨t,y0,rfl,ht,rfl,y⟩:=y;exact hs i y0 σ _ t (y xs q) p ht
 have e:i=xs.length:=by omega
 subst e;exact .inl ⟨⟨xs,q,aD _⟩,hd σ H p⟩
def pM {K:a8}{a:Addr}{xs:List V}{g:TG}{tb:TS}{D:Ends}{σ:St}{H:Hp}(Pv:Nat->St->Hp->Prop)(h0:Pv 0 σ H)(hl:∀i σ H,i<=xs.length->Pv i σ H->aR K H a xs)
  (hs:∀i x σ H t,xs[i]?=some x->Pv i σ H->H t=none->g (.ref t) σ (upd H t (.tup [.int (i:Int),x])) λσ2 H2=>tb { D with nx:=Pv (i+1),ct:=Pv (i+1),bk:=D.nx } σ2 H2)(hd:∀σ H,Pv xs.length σ H->D.nx σ H) :
  ∃W:Nat->Nat->St->Hp->Prop,(∃m,W 0 m σ H)/\∀i m σ H,W i m σ H ->
   ((tU K a).stop i H/\D.nx σ H)\/((tU K a).go i H/\∃N:St->Hp->Prop,(∀σ' H',N σ' H'->∃m',m' < m/\W (i+1) m' σ' H')/\∀x H',(tU K a).mD i H x H'->g x σ H' λσ2 H2=>tb { D with nx:=N,ct:=N,bk:=D.nx } σ2 H2):=by
 refine⟨λi m σ H=>m=xs.length - i/\i<=xs.length/\Pv i σ H,⟨xs.length,by simp,fh _,h0⟩,?_⟩;rintro i m σ H ⟨rfl,hi,p⟩;have q:=hl i σ H hi p;by_cases jd:i < xs.length
 .refine .inr ⟨⟨xs,xs[i],q,by simp [jd]⟩,Pv (i+1),λσ' H' p'=>⟨xs.length - (i+1),by omega,rfl,jd,p'⟩,λx H' y=>?_⟩;obtain⟨t,y0,rfl,ht,rfl,y⟩:=y;exact hs i y0 σ _ t (y xs q) p ht
 have e:i=xs.length:=by omega
 subst e;exact .inl ⟨⟨xs,q,aD _⟩,hd σ H p⟩
def u5 {K:a8}{H:Hp}{p D d:Addr}{zs:List Str}{kvs:List (aL×V)}{σ:St}{js:List (Nat×Str)}{Qp:Hp->Prop}(hσ:dN ["part"] js σ=[none,aM d])(hp:aR K H p (zs.map V.str))(hz:zs.length<=1000)
  (hd:H d=some (.dK kvs))(hD:H D=none)(q:∀H2,aB H H2->H2 D=some (.lst ((zs.map λz=>(bf kvs (Sum.inr z)).isSome).map V.bl))->Qp H2) :
  ∃W:Nat->Nat->List V->St->Hp->Prop,(∃m,W 0 m [] (dN ["part"] js σ) (upd H D (.lst []))) /\
 ∀i m ys σ' H,W i m ys σ' H->((oI K p).stop i H/\Qp H)\/((oI K p).go i H/\∃m',m' < m/\∀x H',(oI K p).mD i H x H'->dJ 0 x σ' H' λσ2 H2=>hV σ2 H2 λb H3 =>
  if b=true then PV (gC 0) (gC 1) σ2 H3 λy H4=>H4 D=some (.lst ys)/\ys.length < sizeLine/\W (i+1) m' (ys++[y]) σ2 (upd H4 D (.lst (ys++[y]))) else W (i+1) m' ys σ2 H3):=by
 refine gA (xs:=zs.map V.str) (λi ys σ2 H2=>ys=(((zs.take i).map λz=>(bf kvs (Sum.inr z)).isSome).map V.bl)/\(∃y0,σ2=[y0,aM d])/\aB H H2/\H2 D=some (.lst ys))
  ⟨rfl,⟨none,hσ⟩,af hD _,ae⟩ (λi ys σ2 H2 _ h=>h.2.2.1.tup hp) (λi x ys σ2 H2 ex h=>?_) (λys σ2 H2 h=>?_)
 .obtain⟨rfl,⟨y0,rfl⟩,sm,hd2⟩:=h;rw [bo] at ex;obtain⟨z,ez,rfl⟩:=cf.mp ex;have li:=(bj.mp ez).1;refine goN (yB ?_);refine⟨_,rfl,_,rfl,d,_,rfl,bW.k (k:=Sum.inr z) (sm _ _ hd),hd2,bE (by rw [av,av,dC];omega),?_,⟨_,rfl⟩,?_,ae⟩
  .rw [cP,ez,bF,bF];rfl
  intro b o hb;rw [ai (λz=>by rw [z,hD] at hb;cases hb)];exact sm b o hb
 obtain⟨rfl,_,sm,hd2⟩:=h;rw [av,cO] at hd2;exact q H2 sm hd2
def hX {K:a8}{H:Hp}{D a:Addr}{xs:List V}{ys:List (aL×V)}{o:HO}(hD:H D=some (.dK ys))(h:aR K H a xs):aR K (upd H D o) a xs:=by
 rcases h with (h | ⟨u,h⟩) | h
 .exact .inl (.inl (by rw [ai (λz=>by rw [z,hD] at h;cases h)];exact h))
 .exact .inl (.inr ⟨u,by rw [ai (λz=>by rw [z,hD] at h;cases h)];exact h⟩)
 exact .inr h
theorem gy {α:Type} [DecidableEq α]:∀(l m:List α),l.Nodup->(∀x∈l,x∈m)->l.length<=m.length
 | [],m,_,_=>fh _
 | a::l,m,hn,h=>by
  have hm:=h a cI;have:=gy l (m.erase a) (ng.mp hn).2 λx hx=>(List.mem_erase_of_ne (λz:x=a=>(ng.mp hn).1 (by rw [<-z];exact hx))).mpr (h x (cV _ hx));rw [List.length_erase_of_mem hm] at this;have:=List.length_pos_of_mem hm;rw [dQ];omega
end L2
namespace M11
open PySem L2
inductive xq (aa:List au):List (Str×Nat)->Prop
 | nil:xq aa []
 | snoc {bx:List (Str×Nat)}{k:Nat}{ru:au}:xq aa bx->aa[k]?=some ru->ru.1∉bx.map (·.1)->(∀p∈ru.2,p∈bx.map (·.1))->xq aa (bx++[(ru.1,k)])
def zg (aa:List au) (n:Nat)(bx:List (Str×Nat)):Prop:=∀ru∈aa.take n,(∀p∈ru.2,p∈bx.map (·.1))->ru.1∈bx.map (·.1)
def xq.nd {aa:List au}{bx:List (Str×Nat)}(h:xq aa bx):(bx.map (·.1)).Nodup:=by
 induction h with
 | nil=>exact kJ
 | snoc h e n p ih =>
  rw [bF];refine j8.mpr ⟨ih,by simp,λa ha b hb=>?_⟩;rw [o9,bB] at hb;exact λz=>n (by rw [<-hb,<-z];exact ha)
def xq.head {aa:List au}{bx:List (Str×Nat)}(h:xq aa bx):∀x∈bx.map (·.1),x∈aa.map (·.1):=by
 induction h with
 | nil=>simp
 | snoc h e n p ih =>
  intro x hx;rw [bF] at hx;rcases cg.mp hx with hx | hx
  .exact ih x hx
  rw [o9,bB] at hx;rw [hx];exact j9 (bZ e)
def xq.len {aa:List au}{bx:List (Str×Nat)}(h:xq aa bx):bx.length<=aa.length:=by
 have:=gy _ _ h.nd h.head;rw [av,av] at this;exact this
end M11
namespace gR
open PySem L2 M11
section
def pT (K:a8)(H:Hp)(ts:List Addr)(bx:List (Str×Nat)):Prop:=Paired (λt (e:Str×Nat)=>aR K H t [.str e.1,.int (e.2:Int)]) ts bx
def pT.keep {H H':Hp}{ts:List Addr}{bx:List (Str×Nat)}(h:pT K H ts bx)(k:∀a xs,aR K H a xs->aR K H' a xs):pT K H' ts bx:=Paired.eI h λt e z=>k _ _ z
structure CH (K:a8)(aa:List au)(H H5:Hp)(D d:Addr)(ts:List Addr)(bx:List (Str×Nat))(kvs:List (aL×V)):Prop where
 sm:aB H H5
 hD:H5 D=some (.lst (ts.map V.ref))
 hd:H5 d=some (.dK kvs)
 keys:kvs.map (·.1)=(bx.map (·.1)).map Sum.inr
 ev:pT K H5 ts bx
 emp:xq aa bx
def CH.same {aa:List au}{H H5 H6:Hp}{D d:Addr}{ts:List Addr}{bx:List (Str×Nat)}{kvs:List (aL×V)}(h:CH K aa H H5 D d ts bx kvs)(s:aB H5 H6):CH K aa H H6 D d ts bx kvs :=
 ⟨h.sm.trans s,s _ _ h.hD,s _ _ h.hd,h.keys,h.ev.keep λ_ _ z=>s.tup z,h.emp⟩
def CH.mem {aa:List au}{H H5:Hp}{D d:Addr}{ts:List Addr}{bx:List (Str×Nat)}{kvs:List (aL×V)}(h:CH K aa H H5 D d ts bx kvs)(z:Str):(bf kvs (Sum.inr z)).isSome=true↔z∈bx.map (·.1):=by
 rw [dP,h.keys];exact cM
def CH.len {aa:List au}{H H5:Hp}{D d:Addr}{ts:List Addr}{bx:List (Str×Nat)}{kvs:List (aL×V)}(h:CH K aa H H5 D d ts bx kvs):ts.length=bx.length/\kvs.length=bx.length:=by
 refine⟨a_ h.ev,?_⟩;have:=congrArg List.length h.keys;simpa using this
def CH.more {aa:List au}{H H5:Hp}{D d t:Addr}{ts:List Addr}{bx:List (Str×Nat)}{kvs:List (aL×V)}(h:CH K aa H H5 D d ts bx kvs)(fD:H D=none)(fd:H d=none){k:Nat}{ru:au}(e:aa[k]?=some ru)
  (n:ru.1∉bx.map (·.1))(p:∀x∈ru.2,x∈bx.map (·.1))(ht:upd H5 d (.dK (bK kvs (Sum.inr ru.1) (.bl true))) t=none) :
  CH K aa H (upd (upd (upd H5 d (.dK (bK kvs (Sum.inr ru.1) (.bl true)))) t (.tup [.str ru.1,.int (k:Int)])) D (.lst (ts.map V.ref++[.ref t]))) D d (ts++[t]) (bx++[(ru.1,k)]) (bK kvs (Sum.inr ru.1) (.bl true)):=by
 have Zk:D≠d:=λz=>by have:=h.hD;rw [z,h.hd] at this;cases this
 have nt:t≠d:=λz=>by rw [z,ae] at ht;cases ht
 have Q2:H5 t=none:=by rw [ai nt] at ht;exact ht
 have nDt:D≠t:=λz=>by rw [<-z,h.hD] at Q2;cases Q2
 have i4:upd (upd H5 d (.dK (bK kvs (Sum.inr ru.1) (.bl true)))) t (.tup [.str ru.1,.int (k:Int)]) D=some (.lst (ts.map V.ref)):=by rw [ai nDt,ai Zk];exact h.hD
 have kp:∀a xs,aR K H5 a xs->aR K (upd (upd (upd H5 d (.dK (bK kvs (Sum.inr ru.1) (.bl true)))) t (.tup [.str ru.1,.int (k:Int)])) D (.lst (ts.map V.ref++[.ref t]))) a xs:=λa xs z =>
  aW i4 ((af ht _).tup (hX h.hd z))
 refine⟨λb o hb=>?_,by rw [ae,bF];rfl,by rw [ai Zk.symm,ai nt.symm,ae],?_,gW (h.ev.keep kp) (aW i4 (aR.of ae)),.snoc h.emp e n p⟩
 .have:=h.sm b o hb;rw [ai (λz=>by rw [z,fD] at hb;cases hb),ai (λz=>by rw [z,Q2] at this;cases this),ai (λz=>by rw [z,fd] at hb;cases hb)];exact this
 rw [iA (by rw [h.keys];exact λz=>n (cM.mp z)),h.keys,bF,bF];rfl
def pq (K:a8):Sp:=λvs H Q _=>∃(R:Addr)(rs:List Addr)(aa:List au),vs=[.ref R]/\aG K H R (rs.map V.ref)/\bI K H rs aa/\aa.length<=1000/\(∀ru∈aa,ru.2.length<=8) /\
 ∀D ts bx H',H D=none->aB H H'->H' D=some (.lst (ts.map V.ref))->pT K H' ts bx->xq aa bx->zg aa aa.length bx->Q (.ref D) H'
def g6:aI ["rules","told","empty","many","number","rule"] ["rules"] (ay sj):=iS rfl rfl rfl rfl (by decide +kernel)
def Av (F:ix K "found_empties" "found_empties" sj f fd)(T:Txt mg):bQ P w K mg base fX 1 f fd ["rules"] (pq K):=by
 refine F.ok g6 (λvs H Q E h=>?_) (λeJ A outer s H vs Q E hr h=>?_)
 .obtain⟨R,rs,aa,rfl,_⟩:=h;rfl
 obtain⟨R,rs,aa,rfl,hR,cS,br,h8,q⟩:=h;have hu:=fV hr;refine⟨_,aj (aC (i:=1) g6.nd rfl (bA rfl) (bz ah))
  (aj (aC (i:=2) g6.nd rfl (Or.inr rfl) gP)
  (aj (aC (i:=3) g6.nd rfl (bA rfl) (lZ i_ ar))
  (aj (kZ b8 (bw qg (pv 3) (aF aK rfl T.len dI (ab (pv 1) ah)) (bV _))
   (aj (aC (i:=3) g6.nd rfl (bA rfl) (aF aK rfl T.len dI (ab (pv 1) ah)))
   (ak (bJ b8 rfl (nZ rfl T.Kk (ab (pv 0) ah)) (gO rfl (aA (ao (i:=4) g6.nd rfl (bA rfl)) (aA (ao (i:=5) g6.nd rfl (bA rfl)) bU)))
    (ak (bT (PW.pt (ja (dG (dW hu (aP bq (pv 5) ar (λ_ _=>rfl)) (pv 2)))
      (iz (dF (aF (gB rfl) rfl T.all boot_all (ab (ba ["part"] [(2,"empty")] rfl (fA (aP bq (pv 5) ar (λ_ _=>rfl))) (a9 rfl rfl) (by decide +kernel) rfl (by decide +kernel)
       (λ_ _ _ _ _=>ao (i:=0) (show (["part","empty"]:List Str).Nodup by decide +kernel) rfl (bA rfl)) (λ_ _ _ _ _=>bO) (λ_ _ _ _ _=>sq (jb hu (pv 0) (pv 1)))) ah))))))
     (aj (iB hu (pv 2) (aP bq (pv 5) ar (λ_ _=>rfl)) dU rfl)
     (ak (cA (gQ fZ gJ gK bL (pv 1) (ab (bR (ab (aP bq (pv 5) ar (λ_ _=>rfl)) (ab (pv 4) ah))) ah))))) aS))))))
  (ak (aQ (pv 1)))))),?_⟩
 nofun
 refine⟨rJ,λD hD d hd=>?_⟩;have Zi:d≠D:=λz=>by rw [z,ae] at hd;cases hd
 have tZ:H d=none:=by rw [ai Zi] at hd;exact hd
 have e0:CH K aa H (upd (upd H D (.lst [])) d (.dK [])) D d [] [] []:=⟨(af hD _).trans (af hd _),by rw [ai Zi.symm,ae];rfl,ae,rfl,.nil,.nil⟩;generalize upd (upd H D (.lst [])) d (.dK [])=H0 at e0;refine⟨1,rfl,?_⟩;refine⟨λm σ H5=>∃(ts:List Addr)(bx:List (Str×Nat))(kvs:List (aL×V)) (many:Int)(y4 y5:Option V),σ=[aM R,aM D,aM d,some (.int many),y4,y5]/\CH K aa H H5 D d ts bx kvs/\-1<=many/\many<=bx.length/\(many=bx.length->zg aa aa.length bx)/\(m:Int)=aa.length+1 - many,
  ⟨aa.length+2,[],[],[],-1,none,none,rfl,e0,by omega,by simp,by simp,by simp;omega⟩,?_⟩
 rintro m σ H5 ⟨ts,bx,kvs,many,y4,y5,rfl,S,b1,b2,cl,em⟩;obtain⟨lt,lk⟩:=S.len;refine⟨_,rfl,_,rfl,D,_,rfl,.inl (aG.of S.hD),_,_,rfl,rfl,_,rfl,?_⟩;refine cD (λc=>?_) (λc=>?_)
 .have c':=dw c;rw [av,lt] at c';refine⟨λσ H5=>∃(xr:List Addr)(iC:List (Str×Nat))(fR:List (aL×V))(y4 y5:Option V),σ=[aM R,aM D,aM d,some (.int (bx.length:Int)),y4,y5]/\CH K aa H H5 D d xr iC fR/\bx.length<=iC.length/\(iC.length=bx.length->zg aa aa.length iC),?_,?_⟩
  .rintro σ H6 ⟨xr,iC,fR,y4,y5,rfl,S2,l2,c2⟩;have:=S2.emp.len;exact⟨(aa.length+1 - bx.length:Int).toNat,by omega,xr,iC,fR,_,_,_,rfl,S2,by omega,by omega,λz=>c2 (by omega),by omega⟩
  refine⟨_,rfl,D,_,rfl,.inl (aG.of S.hD),?_⟩;rw [av,lt];refine⟨_,rfl,R,_,rfl,S.sm.seq hR,?_⟩;refine lF (xs:=rs.map V.ref) (λi σ H6=>∃(xr:List Addr)(iC:List (Str×Nat))(fR:List (aL×V))(y4 y5:Option V),σ=[aM R,aM D,aM d,some (.int (bx.length:Int)),y4,y5]/\CH K aa H H6 D d xr iC fR/\bx.length<=iC.length/\(iC.length=bx.length->zg aa i iC))
   ⟨ts,bx,kvs,_,_,rfl,S,aD _,λ_ ru iR=>by simp at iR⟩ ?_ ?_ ?_
  .rintro i σ H6 _ ⟨xr,iC,fR,y4,y5,rfl,S2,_⟩;exact S2.sm.seq hR
  .rintro i x σ H6 t ex ⟨xr,iC,fR,y4,y5,rfl,S2,l2,c2⟩ ht
   ac_nf0
   rw [bo] at ex;obtain⟨r,er,rfl⟩:=cf.mp ex;obtain⟨ru,e1,p,v1,v2⟩:=cS.get er;have OW:=h8 ru (bZ e1);have S3:=S2.same (af ht (.tup [.int (i:Int),.ref r]));have OO:aR K (upd H6 t (.tup [.int (i:Int),.ref r])) t [.int (i:Int),.ref r]:=aR.of ae;generalize upd H6 t (.tup [.int (i:Int),.ref r])=H7 at S3 OO;obtain⟨lt2,Td⟩:=S3.len;have el2:=S3.emp.len;have tk:aa.take (i+1)=aa.take i++[ru]:=by rw [cP,e1];rfl
   have kW:(¬((∀p∈ru.2,p∈iC.map (·.1))/\ru.1∉iC.map (·.1)))->(iC.length=bx.length->zg aa (i+1) iC):=λhn z CY yw hp=>by
    rw [tk] at yw;rcases cg.mp yw with h | h
    .exact c2 z CY h hp
    rw [bB.mp h] at hp ⊢;exact Classical.byContradiction λhc=>hn ⟨hp,hc⟩
   refine⟨t,_,rfl,OO,rfl,_,_,rfl,_,_,rfl,rfl,?_⟩;refine⟨_,rfl,r,_,_,_,rfl,rfl,S3.sm.tup v1,rfl,?_⟩;refine⟨_,rfl,d,_,rfl,bW.k (k:=Sum.inr ru.1) S3.hd,_,rfl,?_⟩;refine cD (λc3=>?_) (λc3=>?_)
   .have nm:ru.1∉iC.map (·.1):=λh=>by rw [(S3.mem _).mpr h] at c3;exact absurd c3 (by decide)
    refine⟨_,rfl,r,_,_,_,rfl,rfl,S3.sm.tup v1,rfl,p,rfl,⟨_,S3.sm.tup v2⟩,λD2 i4=>u5 rfl (S3.sm.tup v2) (by omega) S3.hd i4 λH8 OF Rv=>?_⟩;have S4:=S3.same OF;refine⟨D2,_,rfl,aG.of Rv,_,rfl,?_⟩;refine cD (λc4=>?_) (λc4=>?_)
    .have al:∀x∈ru.2,x∈iC.map (·.1):=λx hx=>(S4.mem x).mp (gq.mp c4 _ (j9 hx));refine⟨_,rfl,_,rfl,r,_,_,_,rfl,rfl,S4.sm.tup v1,rfl,d,_,rfl,pV.k (k:=Sum.inr ru.1) S4.hd (bE (by omega)),?_⟩;have v1':aR K (upd H8 d (.dK (bK fR (Sum.inr ru.1) (.bl true)))) r [.str ru.1,.ref p]:=hX S4.hd (S4.sm.tup v1);have NR:upd H8 d (.dK (bK fR (Sum.inr ru.1) (.bl true))) D=some (.lst (xr.map V.ref)):=by rw [ai (λz=>by have:=S4.hD;rw [z,S4.hd] at this;cases this)];exact S4.hD
     refine⟨_,rfl,.inl ⟨rfl,_,aG.of NR⟩,_,rfl,r,_,_,_,rfl,rfl,v1',rfl,_,rfl,oJ,λt2 jy=>?_⟩;refine⟨D,_,_,rfl,rfl,(by rw [ai (az NR jy)];exact NR),bE (by rw [av];omega),?_⟩;have S5:=S4.more hD tZ e1 nm al jy;exact⟨xr++[t2],iC++[(ru.1,i)],_,_,_,rfl,S5,by rw [bp];omega,λz=>by rw [bp] at z;simp at z;omega⟩
    refine⟨xr,iC,fR,_,_,rfl,S4,l2,kW λ⟨ha,_⟩=>c4 (gq.mpr λb hb=>?_)⟩;obtain⟨x,hx,rfl⟩:=cx.mp hb;exact(S4.mem x).mpr (ha x hx)
   refine⟨xr,iC,fR,_,_,rfl,S3,l2,kW λ⟨_,hn⟩=>c3 ?_⟩;cases hq:(bf fR (Sum.inr ru.1)).isSome with
   | true=>exact absurd ((S3.mem _).mp hq) hn
   | false=>rfl
  rintro σ H6 ⟨xr,iC,fR,y4,y5,rfl,S2,l2,c2⟩;rw [av,a_ cS] at c2;exact⟨xr,iC,fR,_,_,rfl,S2,l2,c2⟩
 have c':=of_decide_eq_false (ro.mpr c);rw [av,lt] at c';exact⟨_,rfl,q D ts bx H5 hD S.sm S.hD S.ev S.emp (cl (by omega))⟩
end
end gR
namespace M11
open PySem L2
def DV (b:Str->Bool):List Str->Nat
 | []=>0
 | z::r=>if b z=true then DV b r+1 else 1
theorem Ck (b:Str->Bool):∀zs:List Str,(∀z∈zs,b z=true)->DV b zs=zs.length
 | [],_=>rfl
 | z::r,h=>by
  unfold DV;rw [ax (h z cI),Ck b r λx hx=>h x (cV _ hx)];rfl
theorem HJ (b:Str->Bool):∀(zs:List Str) (i:Nat)(z:Str),(∀x∈zs.take i,b x=true)->zs[i]?=some z->¬b z=true->DV b zs=i+1
 | y::r,0,z,_,e,n=>by
  cases e;unfold DV;rw [aw n]
 | y::r,i+1,z,h,e,n=>by
  unfold DV;rw [ax (h y (by rw [List.take_succ_cons];exact cI)),HJ b r i z (λx hx=>h x (by rw [List.take_succ_cons];exact cV _ hx)) e n]
theorem HI (b:Str->Bool):∀zs:List Str,DV b zs<=zs.length
 | []=>aD _
 | z::r=>by
  have:=HI b r;unfold DV;rw [dQ]
  split <;> omega
def cnt (n:Nat):List V:=(List.range n).map λk:Nat=>V.int (k:Int)
end M11
namespace gR
open PySem L2 M11
section
def BH (K:a8):Sp:=λvs H Q _=>∃(R:Addr)(rs:List Addr)(aa:List au),vs=[.ref R]/\aG K H R (rs.map V.ref)/\bI K H rs aa/\aa.length<=1000/\(∀ru∈aa,ru.2.length<=8)/\(aa.flatMap (·.2)).Nodup /\
 ∀H',aB H H'->Q .eU H'
def nN:aI ["strengths","met","way","words","word"] ["strengths"] (ay zU):=iS rfl rfl rfl rfl (by decide +kernel)
def Gk (F:ix K "refuse_twice" "refuse_twice" zU f fd)(T:Txt mg):bQ P w K mg base fX 1 f fd ["strengths"] (BH K):=by
 refine F.ok nN (λvs H Q E h=>?_) (λeJ A outer s H vs Q E hr h=>?_)
 .obtain⟨R,rs,aa,rfl,_⟩:=h;rfl
 obtain⟨R,rs,aa,rfl,hR,cS,br,h8,Ny,q⟩:=h;have hu:=fV hr;refine⟨_,aj (aC (i:=1) nN.nd rfl (bA rfl) gP)
  (ak (bJ b8 rfl (aX (pv 0)) (gO rfl (aA (ao (i:=2) nN.nd rfl (bA rfl)) (aA (ao (i:=3) nN.nd rfl (bA rfl)) bU)))
   (ak (bJ b8 rfl (fA (pv 3)) (ao (i:=4) nN.nd rfl (bA rfl))
    (aj (bT (dG (jb hu (pv 4) (pv 1))) (ak iM) aS) (ak (iB hu (pv 1) (pv 4) dU rfl))))))),?_⟩
 nofun
 intro e he;have BV:∀o,aB H (upd H e o):=λo=>af he o;have ll:=a_ cS;refine⟨_,rfl,R,rfl,⟨_,(BV _).seq hR⟩,cQ (xs:=rs.map V.ref) (λi σ H5=>∃(kvs:List (aL×V))(y3 y4 y5:Option V),σ=[aM R,aM e,y3,y4,y5]/\H5=upd H e (.dK kvs) /\
  kvs.map (·.1)=((aa.take i).flatMap (·.2)).map Sum.inr) ⟨[],none,none,none,rfl,rfl,rfl⟩ ?_ ?_ ?_⟩
 .rintro i σ H5 _ ⟨kvs,y3,y4,y5,rfl,rfl,_⟩;exact(BV _).seq hR
 .rintro i x σ H5 ex ⟨kvs,y3,y4,y5,rfl,rfl,hk⟩
  ac_nf0
  rw [bo] at ex;obtain⟨r,er,rfl⟩:=cf.mp ex;obtain⟨ru,e1,p,v1,v2⟩:=cS.get er;have li:=(bj.mp e1).1;have OW:=h8 ru (bZ e1);have eT:(aa.take (i+1)).flatMap (·.2)=(aa.take i).flatMap (·.2)++ru.2:=by
   rw [cP,e1,pZ];simp
  have lA:((aa.take i).flatMap (·.2)).length<=8 * i:=ju (aa.take i) i (by rw [dC];omega) λru iR=>h8 ru (qS iR);have uf:((aa.take i).flatMap (·.2)++ru.2).Nodup:=by
   have e2:aa.flatMap (·.2)=((aa.take i).flatMap (·.2)++ru.2)++(aa.drop (i+1)).flatMap (·.2):=by
    rw [<-eT,<-pZ,vJ]
   rw [e2] at Ny;exact(j8.mp Ny).1
  refine⟨r,_,rfl,(BV _).tup v1,rfl,_,_,rfl,_,_,rfl,rfl,?_⟩;refine⟨_,rfl,p,rfl,⟨_,(BV _).tup v2⟩,oy (xs:=ru.2.map V.str) (λj σ H6=>∃(kvs:List (aL×V))(y5:Option V),σ=[aM R,aM e,some (.str ru.1),aM p,y5]/\H6=upd H e (.dK kvs) /\
   kvs.map (·.1)=((aa.take i).flatMap (·.2)++ru.2.take j).map Sum.inr) ⟨kvs,_,rfl,rfl,by rw [oS,ir];exact hk⟩ ?_ ?_ ?_⟩
  .rintro j σ H6 _ ⟨kvs,y5,rfl,rfl,_⟩;exact(BV _).tup v2
  .rintro j x σ H6 pN ⟨kvs,y5,rfl,rfl,DJ⟩
   ac_nf0
   rw [bo] at pN;obtain⟨z,ez,rfl⟩:=cf.mp pN;have lj:=(bj.mp ez).1;have eS:ru.2.take (j+1)=ru.2.take j++[z]:=by rw [cP,ez];rfl
   have lk:kvs.length<=8 * i+8:=by
    have h1:=congrArg List.length DJ;rw [av,av,bp,dC] at h1;omega
   have nz:z∉(aa.take i).flatMap (·.2)++ru.2.take j:=λhz=>by
    have e3:(aa.take i).flatMap (·.2)++ru.2=((aa.take i).flatMap (·.2)++ru.2.take j)++([z]++ru.2.drop (j+1)):=by
     rw [lU,<-lU (ru.2.take j),<-eS,vJ]
    rw [e3] at uf;exact(j8.mp uf).2.2 z hz z (by simp) rfl
   have nk:¬(Sum.inr z:aL)∈kvs.map (·.1):=by rw [DJ];exact λh=>nz (cM.mp h)
   refine⟨_,rfl,_,rfl,e,_,rfl,bW.k (k:=Sum.inr z) ae,_,rfl,?_⟩;refine cD (λc=>absurd ((dP kvs _).mp c) nk) (λ_=>?_);refine⟨_,rfl,_,rfl,e,_,rfl,pV.k (k:=Sum.inr z) ae (bE (by omega)),?_⟩;refine⟨bK kvs (Sum.inr z) (.bl true),_,rfl,by rw [nE],?_⟩;rw [iA nk,DJ,eS,<-lU];simp only [bF,cN,ml]
  rintro σ H6 ⟨kvs,y5,rfl,rfl,DJ⟩;rw [av,cO,<-eT] at DJ;exact⟨kvs,_,_,_,rfl,rfl,DJ⟩
 rintro σ H5 ⟨kvs,y3,y4,y5,rfl,rfl,hk⟩;exact q _ (BV _)
def xO (K:a8):Sp:=λvs H Q _=>∃(p d:Addr) (zs:List Str)(kvs:List (aL×V)),vs=[.ref p,.ref d]/\aR K H p (zs.map V.str)/\zs.length<=1000/\H d=some (.dK kvs) /\
 ∀D H',H D=none->aB H H'->H' D=some (.lst (cnt (DV (λz=>(bf kvs (Sum.inr z)).isSome) zs)))->Q (.ref D) H'
def nP:aI ["parts","empty","places","place","part"] ["parts","empty"] (ay wc):=iS rfl rfl rfl rfl (by decide +kernel)
def Dj (F:ix K "first_places" "first_places" wc f fd)(T:Txt mg):bQ P w K mg base fX 1 f fd ["parts","empty"] (xO K):=by
 refine F.ok nP (λvs H Q E h=>?_) (λeJ A outer s H vs Q E hr h=>?_)
 .obtain⟨p,d,zs,kvs,rfl,_⟩:=h;rfl
 obtain⟨p,d,zs,kvs,rfl,hp,hz,hd,q⟩:=h;have hu:=fV hr;refine⟨_,aj (aC (i:=2) nP.nd rfl (bA rfl) (bz ah))
  (aj (bJ b8 rfl (nY rfl T.Kk (ab (pv 0) ah)) (gO rfl (aA (ao (i:=3) nP.nd rfl (bA rfl)) (aA (ao (i:=4) nP.nd rfl (bA rfl)) bU)))
   (aj (cA (gQ fZ gJ gK bL (pv 2) (ab (pv 3) ah)))
   (ak (bT (dG (dW hu (pv 4) (pv 1))) (ak F2) aS))))
  (ak (aQ (pv 2)))),?_⟩
 nofun
 refine⟨rJ,λD hD=>?_⟩;have up1:∀n,cnt n++[V.int (n:Int)]=cnt (n+1):=λn=>by
  unfold cnt;rw [List.range_succ,bF];rfl
 refine⟨_,rfl,p,_,rfl,(af hD _).tup hp,?_⟩;refine pM (xs:=zs.map V.str) (λi σ H5=>∃(y3 y4:Option V),σ=[aM p,aM d,aM D,y3,y4]/\aB H H5/\H5 D=some (.lst (cnt i))/\∀z∈zs.take i,(bf kvs (Sum.inr z)).isSome=true)
  ⟨none,none,rfl,af hD _,ae,by simp⟩ ?_ ?_ ?_
 .rintro i σ H5 _ ⟨y3,y4,rfl,sm,_⟩;exact sm.tup hp
 .rintro i x σ H5 t ex ⟨y3,y4,rfl,sm,Rw,qA⟩ ht
  ac_nf0
  rw [bo] at ex;obtain⟨z,ez,rfl⟩:=cf.mp ex;have li:=(bj.mp ez).1;have vZ:=sm.trans (af ht (.tup [.int (i:Int),.str z]));have i4:upd H5 t (.tup [.int (i:Int),.str z]) D=some (.lst (cnt i)):=by rw [ai (az Rw ht)];exact Rw
  have hv:aR K (upd H5 t (.tup [.int (i:Int),.str z])) t [.int (i:Int),.str z]:=aR.of ae;generalize upd H5 t (.tup [.int (i:Int),.str z])=H6 at vZ i4 hv;have OG:aB H (upd H6 D (.lst (cnt i++[V.int (i:Int)]))):=λb o hb=>by
   rw [ai (λz=>by rw [z,hD] at hb;cases hb)];exact vZ b o hb
  refine⟨t,_,rfl,hv,rfl,_,_,rfl,_,_,rfl,rfl,?_⟩;refine⟨_,rfl,.inl ⟨rfl,_,aG.of i4⟩,_,rfl,D,_,_,rfl,rfl,i4,bE (by unfold cnt;rw [av,mx];omega),?_⟩;refine⟨_,rfl,_,rfl,d,_,rfl,bW.k (k:=Sum.inr z) (OG _ _ hd),_,rfl,?_⟩;refine cD (λc=>?_) (λc=>?_)
  .refine⟨_,rfl,q D _ hD OG ?_⟩;rw [ae,up1,HJ _ zs i z qA ez (λh=>by rw [h] at c;exact absurd c (by decide))]
  refine⟨_,_,rfl,OG,by rw [ae,up1],λx hx=>?_⟩;rw [cP,ez] at hx;rcases cg.mp hx with h | h
  .exact qA x h
  rw [Option.toList_some,bB] at h;subst h;cases hq:(bf kvs (Sum.inr x)).isSome with
  | true=>rfl
  | false=>exact absurd (by rw [hq];rfl) c
 rintro σ H5 ⟨y3,y4,rfl,sm,Rw,qA⟩;rw [av] at Rw qA;rw [cO] at qA;exact⟨_,rfl,q D _ hD sm (by rw [Ck _ zs qA];exact Rw)⟩
end
end gR
namespace L2
open PySem
section
variable {prog:Program}{w:World}{K:Type} [DecidableEq K] {knd:KeyKind prog w K}{A:Around}{E:Value->Shared->Prop}
def um {s:Shared}{d l:Addr}{items:Array Value}{n:Nat}{kvs more:List (K×Value)}{Q:Value->Shared->Prop}(hh:A.handled=none)(tZ:s.heap.DictOf knd d kvs)(hx:s.heap.get? l=some { cls:=.type "list",data:=.seq items n })
  (hi:items.size=more.length)(hp:∀(m:Nat) kv,more[m]?=some kv->∃u,items[m]?=some u/\mW knd s.heap u kv)(hz:kvs.length+more.length<=sizeLine)
  (h:∀h' t',h'.DictOf knd d (more.foldl (λa p=>stored a p.1 p.2) kvs)->(∀b o,b≠d->s.heap.get? b=some o->h'.get? b=some o)->Q .none { s with heap:=h',toks:=t' }) :
  wpAny (model prog w) A (call (.builtin "dict.update") [.ref d,.ref l]) Q E s:=by
 refine kN (vy zG.plain PySem.F.entry_dict_update (zG.check _ _ _ _ _ _ _ _ tZ.typeIs (PySem.F.args_dict_update_2 _ _) ?_));unfold Builtin.«dict.update»;refine aq ?_;unfold Builtin.Dict.selfAndRest;refine aq (wpAny_notOrdered_dict tZ.typeIs ?_);show wpAny _ _ (pure (d,[Value.ref l])) _ _ s;refine aH ?_;show wpAny _ _ (Builtin.Dict.updateFrom "dict.update" d (.ref l) [] .none) _ _ s;unfold Builtin.Dict.updateFrom;refine aq (jX (T := "list") ⟨_,hx,rfl⟩ ?_);rw [ax zN];refine aq (pI hx hh λh1 t1 k1=>?_);refine aq (ik ?_);have l1:=k1 _ _ hx;refine aq (mw ⟨_,l1,rfl,_,rfl⟩ ?_);have k2:∀b o,s.heap.get? b=some o->(h1.push { cls:=.type "list_iterator",data:=.fields #[.ref l,.int 0 0] }).get? b=some o:=λb o q=>bG _ (k1 _ _ q);refine aH ⟨i8 fP _,HW (knd:=knd) (A:=A) (l:=l) (items:=items) hh more 0 _ kvs _ _ (by rw [hi,oO]) ?_ ⟨_,cy _ rfl,rfl,rfl⟩ ⟨_,k2 _ _ hx,rfl,n,rfl⟩ (λm kv e=>?_) hz λh' t' hd k3=>?_⟩
 .obtain⟨o,es,ep,q,r⟩:=tZ;exact⟨o,es,ep,k2 _ _ q,r⟩
 .obtain⟨u,e1,e2⟩:=hp m kv e;exact⟨u,by rw [oO];exact e1,e2.keep λb o _ q=>k2 b o q⟩
 exact h h' t' hd λb o n q=>k3 b o n (bD (bu (k1 _ _ q))) (k2 b o q)
end
section
variable {X:Cx}{o e:Expr}{apos gT:Pos}{td ty:TE}
def PU (K:a8)(td ty:TE):TE:=λσ H Q=>td σ H λx H1=>∃a,x=.ref a/\Us H1 a/\ty σ H1 λy H2=>∃l ts kvs more,y=.ref l/\H2 a=some (.dK kvs)/\H2 l=some (.lst (ts.map V.ref)) /\
 Paired (λt kv=>aR K H2 t [kV kv.1,kv.2]) ts more/\kvs.length+more.length<=sizeLine/\Q .eU (upd H2 a (.dK (c_ more kvs)))
def JE (hc:X.calm=true)(ho:PE X o td)(he:PE X e ty)(m:M1 X o "update" apos e gT):PE X (.Call (.Attribute o "update" apos) [e] [] gT) (PU X.K td ty):=by
 intro ag s σ H Q I h;refine wpAny_Call_method m.base m.A1 m.line zE zG PySem.F.type_dict_update (cW (ho ag s σ H _ I h) λu s1 ⟨x,H1,I1,rx,a,ex,d,q1⟩=>?_);subst ex;obtain rfl:u=Value.ref a:=rx;obtain⟨t1,t2,_⟩:=AK I1 d;refine⟨t1,t2,?_⟩;rw [m.trees];refine rD rfl (vx (pY (cW (he ag s1 σ H1 _ I1 q1) λiv s2 ⟨y,H2,I2,ry,l,ts,kvs,more,ey,ea,el,p,hz,q2⟩=>oW ?_)));subst ey;cases (show iv=Value.ref l from ry);obtain⟨z,DF,vs,rel,dd⟩:=yI I2.bY ea;obtain⟨z2,aN,n,rv,hl⟩:=(show cK X.prog X.w H2 s2.heap l (.lst _) from I2.bY l _ el);obtain⟨ms,r1,r2⟩:=pairs_at I2 p rv;have l1:=a_ r2;have l2:=r1.length;have l3:=a_ p;refine um (I2.ok.hd hc) dd hl (by simpa using l1) (λm kv em=>?_) (by rw [<-rel.length,<-l2];exact hz) λh' t' hd kk=>?_
 .obtain⟨u,e1,e2⟩:=Paired.at_ r2 m kv em;exact⟨u,by simpa using e1,e2⟩
 have hn:(c_ more kvs).length<=sizeLine:=dH (sZ more kvs) hz;have he:∃q,h'.get? a=some q:=let ⟨q,_,_,hq,_⟩:=hd;⟨q,hq⟩;exact⟨.eU,_,I2.write (x:=a) (e:=a) (by rw [ea];exact True.intro) (.inl rfl) (λb q hb z=>kk b q hb z) he (tE hn DF (sY r1 rel) hd),rfl,q2⟩
def u7 {X:Cx}:ig X (.builtin "len") (λxs H Q=>∃a kvs,xs=[.ref a]/\H a=some (.dK kvs)/\Q (.int kvs.length) H):=by
 intro ag s σ H xs us Q I r h;obtain⟨a,kvs,rfl,e,q⟩:=h;obtain⟨u,rfl,rx⟩:=vals1 r;cases (show u=Value.ref a from rx);exact Se I (.inl e) λt s' I'=>⟨.int _,H,I',⟨_,rfl⟩,q⟩
end
theorem yu:∀{us:List Value}{ns:List Int},PyProof.Rows.IntsAre us ns->∀ys:List (Int×Tok),us=ys.map (λp=>Value.int p.1 p.2)->ys.map (·.1)=ns
 | _,_,.nil,ys,e=>by
  cases ys with
  | nil=>rfl
  | cons _ _=>cases e
 | _,_,.cons n t h,ys,e=>by
  cases ys with
  | nil=>cases e
  | cons y r =>
   rw [cN] at e;injection e with e1 e2;injection e1 with e3 e4;rw [cN,yu h r e2,e3]
def u6 {X:Cx}(hc:X.calm=true):ig X (.builtin "sum") (λxs H Q=>∃a ns,xs=[.ref a]/\aG X.K H a (List.map V.int ns)/\Q (.int ns.sum) H):=by
 intro ag s σ H xs us Q I r h;obtain⟨a,ns,rfl,hq,q⟩:=h;obtain⟨u,rfl,rx⟩:=vals1 r;cases rx;obtain⟨aN,rv,pl,hz⟩:=I.list hq;have hi:=intsAre_of rv;have qA:AllInts aN.toArray:=hi.allInts;obtain⟨xs,e⟩:=qA.items;have hl:=pl.isList;rw [e] at hl;refine sum_intListG (I.ok.hd hc) hl λh' tk t' hk=>⟨.int _,H,I.kept hk,⟨_,rfl⟩,?_⟩;have e5:xs.toList.map (·.1)=ns:=yu hi xs.toList (by
  have:=congrArg Array.toList e;simpa [intItems] using this)
 have e6:preSum (numAt xs) xs.size=ns.sum:=by
  rw [preSum_eq,e5,qU (by rw [<-e5];simp)]
 rw [e6];exact q
def yN {K:a8}{H:Hp}{p D:Addr}{zs:List Str}{σ:St}{v:V}{x:Str}{Qp:Hp->Prop}(hp:aR K H p (zs.map V.str))(hz:zs.length<=1000)(hD:H D=none)
  (q:∀ts H2,aB H H2->H2 D=some (.lst (ts.map V.ref))->Paired (λt h=>aR K H2 t [.str h,v]) ts zs->Qp H2) :
  ∃W:Nat->Nat->List V->St->Hp->Prop,(∃m,W 0 m [] (dN [x] [] σ) (upd H D (.lst []))) /\
 ∀i m ys σ' H,W i m ys σ' H->((oI K p).stop i H/\Qp H)\/((oI K p).go i H/\∃m',m' < m/\∀x H',(oI K p).mD i H x H'->dJ 0 x σ' H' λσ2 H2=>hV σ2 H2 λb H3 =>
  if b=true then ua (gL (gC 0) (gL (tC v) rM)) σ2 H3 λy H4=>H4 D=some (.lst ys)/\ys.length < sizeLine/\W (i+1) m' (ys++[y]) σ2 (upd H4 D (.lst (ys++[y]))) else W (i+1) m' ys σ2 H3):=by
 refine gA (xs:=zs.map V.str) (λi ys σ2 H2=>∃ts:List Addr,ys=ts.map V.ref/\ts.length=i/\Paired (λt h=>aR K H2 t [.str h,v]) ts (zs.take i)/\(∃y0,σ2=[y0])/\aB H H2/\H2 D=some (.lst ys))
  ⟨[],rfl,rfl,.nil,⟨none,rfl⟩,af hD _,ae⟩ (λi ys σ2 H2 _ h=>?_) (λi x ys σ2 H2 ex h=>?_) (λys σ2 H2 h=>?_)
 .obtain⟨_,_,_,_,_,sm,_⟩:=h;exact sm.tup hp
 .obtain⟨ts,rfl,ht,qy,⟨y0,rfl⟩,sm,hd⟩:=h;rw [bo] at ex;obtain⟨z,ez,rfl⟩:=cf.mp ex;have li:=(bj.mp ez).1;refine goN (yB ?_);refine⟨_,rfl,oJ,λt jy=>⟨?_,bE (by rw [av];omega),ts++[t],?_,?_,?_,⟨_,rfl⟩,?_,ae⟩⟩
  .rw [ai (az hd jy)];exact hd
  .rw [bF];rfl
  .rw [bp,ht];rfl
  .rw [cP,ez];have je:upd H2 t (.tup [.str z,v]) D=some (.lst (ts.map V.ref)):=by rw [ai (az hd jy)];exact hd
   exact gW (Paired.eI qy λt' h' z=>aW je ((af jy _).tup z)) (aW je (aR.of ae))
  intro b o hb;rw [ai (λz=>by rw [z,hD] at hb;cases hb)];exact af jy _ _ _ (sm b o hb)
 obtain⟨ts,rfl,ht,qy,_,sm,hd⟩:=h;rw [av,cO] at qy;exact q ts H2 sm hd qy
end L2
namespace M11
open PySem L2
def oH (a:List Str)(h x:Str):x∈ie a h↔x∈a\/x=h:=by
 unfold ie;split
 .constructor
  .exact .inl
  rintro(z | rfl) <;> assumption
 simp
def CB {a:List Str}(h:Str)(n:a.Nodup):(ie a h).Nodup:=by
 unfold ie;split
 .exact n
 rename_i q
 refine j8.mpr ⟨n,by simp,λx hx y hy=>?_⟩;rw [bB.mp hy];exact λz=>q (z ▸ hx)
def CC (a:List Str)(h:Str):a.length<=(ie a h).length:=by
 unfold ie;split <;> simp
def KD {a:List Str}{h:Str}(e:(ie a h).length=a.length):ie a h=a:=by
 unfold ie at e ⊢;split
 .rfl
 rename_i q
 rw [aw q,bp] at e;simp at e
theorem hU:∀(hs bH:List Str)(x:Str),x∈xc bH hs↔x∈bH\/x∈hs
 | [],bH,x=>by simp [xc]
 | h::r,bH,x=>by
  show x∈xc (ie bH h) r↔_;rw [hU r,oH,bX,or_assoc]
theorem pQ:∀(hs:List Str){bH:List Str},bH.Nodup->(xc bH hs).Nodup
 | [],_,n=>n
 | h::r,_,n=>pQ r (CB h n)
theorem A9:∀(hs bH:List Str),bH.length<=(xc bH hs).length
 | [],_=>aD _
 | h::r,bH=>dH (CC bH h) (A9 r _)
theorem HX:∀(hs bH:List Str),(xc bH hs).length=bH.length->xc bH hs=bH
 | [],_,_=>rfl
 | h::r,bH,e=>by
  have h1:=CC bH h;have h2:=A9 r (ie bH h);have e':(xc (ie bH h) r).length=bH.length:=e;show xc (ie bH h) r=bH;rw [HX r _ (by omega)];exact KD (by omega)
inductive Oy (aa:List au)(s:Str):Str->Prop
 | start:Oy aa s s
 | step {ru:au}{x:Str}:Oy aa s ru.1->ru∈aa->x∈ru.2->Oy aa s x
def Iv (aa:List au) (n:Nat) (ms:List Str):Prop:=∀ru∈aa.take n,ru.1∈ms->∀x∈ru.2,x∈ms
def Oy.among {aa:List au}{s x:Str}(h:Oy aa s x):x∈s::aa.flatMap (·.2):=by
 cases h with
 | start=>exact cI
 | step _ h1 h2=>exact cV _ (rh.mpr ⟨_,h1,h2⟩)
end M11
namespace gR
open PySem L2 M11
section
def KZ (K:a8):Sp:=λvs H Q _=>∃(R:Addr)(rs:List Addr)(aa:List au)(lY:au),vs=[.ref R]/\aG K H R (rs.map V.ref)/\bI K H rs aa/\aa[0]?=some lY/\aa.length<=1000/\(∀ru∈aa,ru.2.length<=8) /\
 ∀d kvs ms H',H d=none->aB H H'->H' d=some (.dK kvs)->kvs.map (·.1)=ms.map Sum.inr->lY.1∈ms->(∀x∈ms,Oy aa lY.1 x)->Iv aa aa.length ms->Q (.ref d) H'
def uF:aI ["rules","met","many","head","parts"] ["rules"] (ay My):=iS rfl rfl rfl rfl (by decide +kernel)
structure Ph (K:a8)(aa:List au)(s0:Str)(H H5:Hp)(d:Addr) (ms:List Str)(kvs:List (aL×V)):Prop where
 sm:aB H H5
 hd:H5 d=some (.dK kvs)
 keys:kvs.map (·.1)=ms.map Sum.inr
 nd:ms.Nodup
 st:s0∈ms
 SV:∀x∈ms,Oy aa s0 x
def Ph.len {aa:List au}{s0:Str}{H H5:Hp}{d:Addr}{ms:List Str}{kvs:List (aL×V)}(h:Ph K aa s0 H H5 d ms kvs)(hl:aa.length<=1000)(h8:∀ru∈aa,ru.2.length<=8):kvs.length=ms.length/\ms.length<=8001:=by
 refine⟨?_,?_⟩
 .have:=congrArg List.length h.keys;simpa using this
 have h1:=gy ms _ h.nd λx hx=>(h.SV x hx).among;have h2:=ju aa 1000 hl h8;rw [dQ] at h1;omega
def M3 (F:ix K "names_met" "names_met" My f fd)(T:Txt mg):bQ P w K mg base fX 1 f fd ["rules"] (KZ K):=by
 refine F.ok uF (λvs H Q E h=>?_) (λeJ A outer s H vs Q E hr h=>?_)
 .obtain⟨R,rs,aa,lY,rfl,_⟩:=h;rfl
 obtain⟨R,rs,aa,lY,rfl,hR,cS,OQ,br,h8,q⟩:=h;have hu:=fV hr;refine⟨_,aj (aC (i:=1) uF.nd rfl (bA rfl) (JF (F4 (aP bq (aP bS (pv 0) ar (λ_ _=>rfl)) ar (λ_ _=>rfl)) dU Jz) rfl rfl (by simp) (show 1<=15 by decide)))
  (aj (aC (i:=2) uF.nd rfl (bA rfl) ar)
  (aj (kZ b8 (bw qg (pv 2) (aF u7 rfl T.len dI (ab (pv 1) ah)) (bV _))
   (aj (aC (i:=2) uF.nd rfl (bA rfl) (aF u7 rfl T.len dI (ab (pv 1) ah)))
   (ak (bJ b8 rfl (aX (pv 0)) (gO rfl (aA (ao (i:=3) uF.nd rfl (bA rfl)) (aA (ao (i:=4) uF.nd rfl (bA rfl)) bU)))
    (ak (bT (dG (jb hu (pv 3) (pv 1)))
     (ak (cA (JE rfl (pv 1) (ba ["part"] [] rfl (fA (pv 4)) (a9 rfl rfl) (by decide +kernel) rfl (by decide +kernel)
       (λ_ _ _ _ _=>ao (i:=0) (show (["part"]:List Str).Nodup by decide +kernel) rfl (bA rfl)) (λ_ _ _ _ _=>bO) (λ_ _ _ _ _=>bR (ab (pv 0) (ab dU ah)))) ⟨rfl,rfl,rfl,rfl⟩))) aS))))))
  (ak (aQ (pv 1))))),?_⟩
 nofun
 intro d hd;have ll:=a_ cS;have l0:=(bj.mp OQ).1;obtain⟨r0,er0⟩:∃r,rs[0]?=some r:=⟨rs[0]'(by omega),b9 (by omega)⟩;obtain⟨aaa,e0,p0,w1,w2⟩:=cS.get er0;rw [OQ] at e0;cases e0;have YQ:=af hd (.dK []);refine⟨_,rfl,R,_,_,.ref r0,rfl,rfl,YQ.seq hR,?_,r0,_,_,_,rfl,rfl,YQ.tup w1,rfl,?_⟩
 .have e7:(rs.map V.ref)[0]?=some (.ref r0):=by rw [bo,er0];rfl
  exact b_ (j:=0) e7
 refine⟨ae,[((Sum.inr lY.1:aL),.bl true)],rfl,(by show 1<=15;decide),?_⟩;have S0:Ph K aa lY.1 H (upd (upd H d (.dK [])) d (.dK (mJ [] [((Sum.inr lY.1:aL),.bl true)]))) d [lY.1] [((Sum.inr lY.1:aL),.bl true)]:=by
  rw [nE];exact⟨af hd _,ae,rfl,by simp,by simp,λx hx=>by rw [bB.mp hx];exact .start⟩
 generalize upd (upd H d (.dK [])) d (.dK (mJ [] [((Sum.inr lY.1:aL),.bl true)]))=H0 at S0;refine⟨λm σ H5=>∃(ms:List Str)(kvs:List (aL×V)) (many:Int)(y3 y4:Option V),σ=[aM R,aM d,some (.int many),y3,y4]/\Ph K aa lY.1 H H5 d ms kvs/\0<=many/\many<=ms.length/\(many=ms.length->Iv aa aa.length ms)/\(m:Int)=8002 - many,
  ⟨8002,[lY.1],_,0,none,none,rfl,S0,by omega,by simp,by simp,by omega⟩,?_⟩
 rintro m σ H5 ⟨ms,kvs,many,y3,y4,rfl,S,b1,b2,cl,em⟩;obtain⟨lk,lm⟩:=S.len br h8;refine⟨_,rfl,_,rfl,d,_,rfl,S.hd,_,_,rfl,rfl,_,rfl,?_⟩;refine cD (λc=>?_) (λc=>?_)
 .have c':=dw c;rw [lk] at c';refine⟨λσ H5=>∃(qK:List Str)(fR:List (aL×V))(y3 y4:Option V),σ=[aM R,aM d,some (.int (ms.length:Int)),y3,y4]/\Ph K aa lY.1 H H5 d qK fR/\ms.length<=qK.length/\(qK.length=ms.length->Iv aa aa.length qK),?_,?_⟩
  .rintro σ H6 ⟨qK,fR,y3,y4,rfl,S2,l2,c2⟩;exact⟨(8002 - ms.length:Int).toNat,by omega,qK,fR,_,_,_,rfl,S2,by omega,by omega,λz=>c2 (by omega),by omega⟩
  refine⟨_,rfl,d,_,rfl,S.hd,?_⟩;rw [lk];refine⟨_,rfl,R,rfl,⟨_,S.sm.seq hR⟩,?_⟩;refine cQ (xs:=rs.map V.ref) (λi σ H6=>∃(qK:List Str)(fR:List (aL×V))(y3 y4:Option V),σ=[aM R,aM d,some (.int (ms.length:Int)),y3,y4]/\Ph K aa lY.1 H H6 d qK fR/\ms.length<=qK.length/\(qK.length=ms.length->Iv aa i qK))
   ⟨ms,kvs,_,_,rfl,S,aD _,λ_ ru iR=>by simp at iR⟩ ?_ ?_ ?_
  .rintro i σ H6 _ ⟨qK,fR,y3,y4,rfl,S2,_⟩;exact S2.sm.seq hR
  .rintro i x σ H6 ex ⟨qK,fR,y3,y4,rfl,S2,l2,c2⟩
   ac_nf0
   rw [bo] at ex;obtain⟨r,er,rfl⟩:=cf.mp ex;obtain⟨ru,e1,p,v1,v2⟩:=cS.get er;have OW:=h8 ru (bZ e1);have tk:aa.take (i+1)=aa.take i++[ru]:=by rw [cP,e1];rfl
   obtain⟨Td,lm2⟩:=S2.len br h8;have mem:(bf fR (Sum.inr ru.1)).isSome=true↔ru.1∈qK:=by rw [dP,S2.keys];exact cM
   refine⟨r,_,rfl,S2.sm.tup v1,rfl,_,_,rfl,_,_,rfl,rfl,?_⟩;refine⟨_,rfl,_,rfl,d,_,rfl,bW.k (k:=Sum.inr ru.1) S2.hd,_,rfl,?_⟩;refine cD (λc3=>?_) (λc3=>?_)
   .have im:=mem.mp c3;refine⟨_,rfl,d,rfl,.inl ⟨_,.inl S2.hd⟩,_,rfl,p,rfl,⟨_,S2.sm.tup v2⟩,λD2 i4=>yN (S2.sm.tup v2) (by omega) i4 λts H8 OF Rv ZS=>?_⟩;have kp:Paired (λt (kv:aL×V)=>aR K H8 t [kV kv.1,kv.2]) ts (ru.2.map λh=>((Sum.inr h:aL),V.bl true)):=cq ZS λ_ _ z=>z;refine⟨D2,ts,fR,_,rfl,OF _ _ S2.hd,Rv,kp,fits (by rw [av];omega),?_⟩;have aan:=A9 ru.2 qK;refine⟨xc qK ru.2,c_ (ru.2.map λh=>((Sum.inr h:aL),V.bl true)) fR,_,_,rfl,⟨λb o hb=>?_,ae,n8 ru.2 fR qK S2.keys,pQ ru.2 S2.nd,(hU ru.2 qK _).mpr (.inl S2.st),λx hx=>?_⟩,by omega,λz CY yw hh=>?_⟩
    .rw [ai (λz=>by rw [z,hd] at hb;cases hb)];exact OF _ _ (S2.sm b o hb)
    .rcases (hU ru.2 qK x).mp hx with h | h
     .exact S2.SV x h
     exact .step (S2.SV _ im) (bZ e1) h
    have e9:=HX ru.2 qK (by omega);rw [e9] at hh ⊢;rw [tk] at yw;rcases cg.mp yw with h | h
    .exact c2 (by omega) CY h hh
    rw [bB.mp h];intro x hx;rw [<-e9];exact(hU ru.2 qK x).mpr (.inr hx)
   refine⟨qK,fR,_,_,rfl,S2,l2,λz CY yw hh=>?_⟩;rw [tk] at yw;rcases cg.mp yw with h | h
   .exact c2 z CY h hh
   rw [bB.mp h] at hh;exact absurd (mem.mpr hh) c3
  rintro σ H6 ⟨qK,fR,y3,y4,rfl,S2,l2,c2⟩;rw [av,ll] at c2;exact⟨qK,fR,_,_,rfl,S2,l2,c2⟩
 have c':=of_decide_eq_false (ro.mpr c);rw [lk] at c';exact⟨_,rfl,q d kvs ms H5 hd S.sm S.hd S.keys S.st S.SV (cl (by omega))⟩
end
end gR
namespace M11
open PySem L2
abbrev G:=Str->Option Int
def eF (g:G)(h:Str) (n:Int):G:=λz=>if z=h then some n else g z
def aT (g:G)(ru:au):Int:=1+(ru.2.map λp=>(g p).getD 0).sum
def lI (g:G)(ru:au):Bool:=ru.2.all λp=>(g p).isSome
def cT (bt:Int->Int->Bool)(g:G)(ru:au):Bool:=lI g ru && (!(g ru.1).isSome || bt (aT g ru) ((g ru.1).getD 0))
def sstep (bt:Int->Int->Bool)(a:G×Bool)(ru:au):G×Bool:=if cT bt a.1 ru=true then (eF a.1 ru.1 (aT a.1 ru),true) else a
def ub (bt:Int->Int->Bool)(aa:List au)(g:G):G×Bool:=aa.foldl (sstep bt) (g,false)
inductive d_ (bt:Int->Int->Bool)(aa:List au):G->G->Prop
 | refl {g:G}:d_ bt aa g g
 | step {g g1:G}{ru:au}:d_ bt aa g g1->ru∈aa->cT bt g1 ru=true->d_ bt aa g (eF g1 ru.1 (aT g1 ru))
def i5 (bt:Int->Int->Bool)(aa:List au)(g:G):Prop:=∀ru∈aa,cT bt g ru=false
def pU (bt:Int->Int->Bool)(aa:List au):Nat->G->Prop
 | 0,g=>(ub bt aa g).2=false
 | n+1,g=>(ub bt aa g).2=false\/pU bt aa n (ub bt aa g).1
def d_.trans {bt:Int->Int->Bool}{aa:List au}{g g1 g2:G}(h:d_ bt aa g g1)(k:d_ bt aa g1 g2):d_ bt aa g g2:=by
 induction k with
 | refl=>exact h
 | step _ a b ih=>exact .step ih a b
theorem sV (bt:Int->Int->Bool)(aa:List au):∀(l:List au)(a:G×Bool),(∀ru∈l,ru∈aa)->d_ bt aa a.1 (l.foldl (sstep bt) a).1
 | [],a,_=>.refl
 | ru::l,a,h=>by
  have ih:=sV bt aa l (sstep bt a ru) λx hx=>h x (cV _ hx);refine d_.trans ?_ ih;unfold sstep;by_cases c:cT bt a.1 ru=true
  .rw [ax c];exact .step .refl (h ru cI) c
  rw [aw c];exact .refl
theorem uU (bt:Int->Int->Bool):∀(l:List au)(a:G×Bool),a.2=true->(l.foldl (sstep bt) a).2=true
 | [],a,h=>h
 | ru::l,a,h=>by
  refine uU bt l (sstep bt a ru) ?_;unfold sstep
  split
  .rfl
  exact h
theorem sX (bt:Int->Int->Bool):∀(l:List au)(a:G×Bool),(l.foldl (sstep bt) a).2=false->(l.foldl (sstep bt) a).1=a.1/\∀ru∈l,cT bt a.1 ru=false
 | [],a,_=>⟨rfl,λ_ h=>nomatch h⟩
 | ru::l,a,h=>by
  by_cases c:cT bt a.1 ru=true
  .have e:sstep bt a ru=(eF a.1 ru.1 (aT a.1 ru),true):=ax c;have h':(l.foldl (sstep bt) (sstep bt a ru)).2=false:=h;rw [e,uU bt l _ rfl] at h';cases h'
  have e:sstep bt a ru=a:=aw c;have h':(l.foldl (sstep bt) (sstep bt a ru)).2=false:=h;rw [e] at h';obtain⟨i1,i2⟩:=sX bt l a h';refine⟨by rw [List.foldl_cons,e];exact i1,λCY hr=>?_⟩;rcases bX.mp hr with z | z
  .rw [z];exact ro.mpr c
  exact i2 CY z
end M11
namespace L2
open PySem M11
def cX.tup {K:a8}{H H':Hp}{d a:Addr}{kvs:List (aL×V)}{xs:List V}(s:cX d H H')(hd:H d=some (.dK kvs))(h:aR K H a xs):aR K H' a xs:=by
 rcases h with (h | ⟨u,h⟩) | h
 .exact .inl (.inl (s _ _ (λz=>by rw [z,hd] at h;cases h) h))
 .exact .inl (.inr ⟨u,s _ _ (λz=>by rw [z,hd] at h;cases h) h⟩)
 exact .inr h
def cX.seq {K:a8}{H H':Hp}{d a:Addr}{kvs:List (aL×V)}{xs:List V}(s:cX d H H')(hd:H d=some (.dK kvs))(h:aG K H a xs):aG K H' a xs:=by
 rcases h with (h | ⟨u,h⟩) | h
 .exact .inl (.inl (s _ _ (λz=>by rw [z,hd] at h;cases h) h))
 .exact .inl (.inr ⟨u,s _ _ (λz=>by rw [z,hd] at h;cases h) h⟩)
 exact .inr h
def Er {K:a8}{H:Hp}{p D d:Addr}{zs:List Str}{kvs:List (aL×V)}{g:G}{σ:St}{js:List (Nat×Str)}{Qp:Hp->Prop}(hσ:dN ["part"] js σ=[none,aM d])(hp:aR K H p (zs.map V.str))(hz:zs.length<=1000)
  (hd:H d=some (.dK kvs))(hv:∀z,bf kvs (Sum.inr z)=(g z).map V.int)(ha:∀z∈zs,(g z).isSome=true)(hD:H D=none)(q:∀H2,aB H H2->H2 D=some (.lst ((zs.map λz=>(g z).getD 0).map V.int))->Qp H2) :
  ∃W:Nat->Nat->List V->St->Hp->Prop,(∃m,W 0 m [] (dN ["part"] js σ) (upd H D (.lst []))) /\
 ∀i m ys σ' H,W i m ys σ' H->((oI K p).stop i H/\Qp H)\/((oI K p).go i H/\∃m',m' < m/\∀x H',(oI K p).mD i H x H'->dJ 0 x σ' H' λσ2 H2=>hV σ2 H2 λb H3 =>
  if b=true then Bv (gC 1) (gC 0) σ2 H3 λy H4=>H4 D=some (.lst ys)/\ys.length < sizeLine/\W (i+1) m' (ys++[y]) σ2 (upd H4 D (.lst (ys++[y]))) else W (i+1) m' ys σ2 H3):=by
 refine gA (xs:=zs.map V.str) (λi ys σ2 H2=>ys=(((zs.take i).map λz=>(g z).getD 0).map V.int)/\(∃y0,σ2=[y0,aM d])/\aB H H2/\H2 D=some (.lst ys))
  ⟨rfl,⟨none,hσ⟩,af hD _,ae⟩ (λi ys σ2 H2 _ h=>h.2.2.1.tup hp) (λi x ys σ2 H2 ex h=>?_) (λys σ2 H2 h=>?_)
 .obtain⟨rfl,⟨y0,rfl⟩,sm,hd2⟩:=h;rw [bo] at ex;obtain⟨z,ez,rfl⟩:=cf.mp ex;have li:=(bj.mp ez).1;obtain⟨n,en⟩:=lW.mp (ha z (bZ ez));have hg:bW H2 d (.str z) (some (.int n)):=by
   have:=bW.k (k:=Sum.inr z) (sm _ _ hd);rw [hv,en] at this;exact this
  refine goN (yB ?_);refine⟨_,rfl,_,rfl,d,_,rfl,hg,hd2,bE (by rw [av,av,dC];omega),?_,⟨_,rfl⟩,?_,ae⟩
  .rw [cP,ez,bF,bF];show _=_++[V.int ((g z).getD 0)];rw [en];rfl
  intro b o hb;rw [ai (λz=>by rw [z,hD] at hb;cases hb)];exact sm b o hb
 obtain⟨rfl,_,sm,hd2⟩:=h;rw [av,cO] at hd2;exact q H2 sm hd2
end L2
namespace gR
open PySem L2 M11
section
def iH (K:a8)(q:Str)(params:Arguments)(body:Expr)(scope:Scope)(bt:Int->Int->Bool):Sp:=λvs H Q _=>∃(R:Addr)(rs:List Addr)(aa:List au)(d fl c':Addr)(pm gF:Value)(kvs:List (aL×V)) (ks:List Str)(g:G),
 vs=[.ref R,.ref d,.ref fl]/\aG K H R (rs.map V.ref)/\bI K H rs aa/\aa.length<=1000/\(∀ru∈aa,ru.2.length<=8)/\H d=some (.dK kvs)/\kvs.map (·.1)=ks.map Sum.inr/\ks.Nodup/\ks.length<=10000 /\
 (∀z,bf kvs (Sum.inr z)=(g z).map V.int)/\(∃n,pU bt aa n g)/\H fl=some (pG fl (PySem.W.kla_obj "<lambda>" q params body scope [] pm c' gF))/\H c'=some (ki c' q) /\
 ∀(mN:List (aL×V)) (QM:List Str)(g':G)(H':Hp),cX d H H'->H' d=some (.dK mN)->mN.map (·.1)=QM.map Sum.inr->(∀z,bf mN (Sum.inr z)=(g' z).map V.int)->d_ bt aa g g'->i5 bt aa g'->mN.length<=20000->Q (.ref d) H'
def iI:aI ["rules","sizes","better","changed","head","parts","size"] ["rules","sizes","better"] (ay nV):=iS rfl rfl rfl rfl (by decide +kernel)
structure xw (K:a8)(aa:List au) (II:List Str)(H H5:Hp)(d:Addr)(kvs:List (aL×V)) (ks:List Str)(g:G):Prop where
 sm:cX d H H5
 hd:H5 d=some (.dK kvs)
 keys:kvs.map (·.1)=ks.map Sum.inr
 nd:ks.Nodup
 sub:∀x∈ks,x∈II++aa.map (·.1)
 val:∀z,bf kvs (Sum.inr z)=(g z).map V.int
def xw.len {aa:List au}{II:List Str}{H H5:Hp}{d:Addr}{kvs:List (aL×V)}{ks:List Str}{g:G}(h:xw K aa II H H5 d kvs ks g):kvs.length<=II.length+aa.length:=by
 have h1:=congrArg List.length h.keys;have h2:=gy ks _ h.nd h.sub;rw [bp,av] at h2;rw [av,av] at h1;omega
def xw.same {aa:List au}{II:List Str}{H H5 H6:Hp}{d:Addr}{kvs:List (aL×V)}{ks:List Str}{g:G}(h:xw K aa II H H5 d kvs ks g)(s:aB H5 H6):xw K aa II H H6 d kvs ks g :=
 ⟨λb o n e=>s _ _ (h.sm b o n e),s _ _ h.hd,h.keys,h.nd,h.sub,h.val⟩
def xw.put {aa:List au}{II:List Str}{H H5:Hp}{d:Addr}{kvs:List (aL×V)}{ks:List Str}{g:G}(h:xw K aa II H H5 d kvs ks g){ru:au}(hr:ru∈aa) (n:Int) :
  xw K aa II H (upd H5 d (.dK (bK kvs (Sum.inr ru.1) (.int n)))) d (bK kvs (Sum.inr ru.1) (.int n)) (ie ks ru.1) (eF g ru.1 n):=by
 refine⟨λb o nb e=>by rw [ai nb];exact h.sm b o nb e,ae,lh h.keys ru.1,CB ru.1 h.nd,λx hx=>?_,λz=>?_⟩
 .rcases (oH ks ru.1 x).mp hx with z | z
  .exact h.sub x z
  rw [z];exact fS _ (j9 hr)
 rw [rK];unfold eF;by_cases c:z=ru.1
 .rw [ax c,ax (by rw [c])];rfl
 rw [aw c,aw (λe=>c (mj e)),h.val]
def uL (F:ix K "settled_sizes" "settled_sizes" nV f fd)(T:Txt mg){q:Str}{params:Arguments}{body:Expr}{scope:Scope}{bt:Int->Int->Bool}{te:TE}(S:aI ["size","known"] ["size","known"] scope)
  (om:∀(pm gF:Value)(c':Addr)(us:List Value),us.length=(["size","known"]:List Str).length->bindArgs (PySem.W.kla_fn "<lambda>" q params body scope [] pm (.ref c') gF) ⟨us,[]⟩=pure ((["size","known"]:List Str).zip us))
  (jr:∀(f c':Addr)(A:Around)(outer:List Env)(s:Shared)(H:Hp),PE (pR fX P w K mg base ["size","known"] q scope f (.ref c') A outer s H λ_ _ _=>False) body te)
  (QZ:∀a b H Q,Q (.bl (bt a b)) H->te [some (.int a),some (.int b)] H Q):bQ P w K mg base fX 2 f fd ["rules","sizes","better"] (iH K q params body scope bt):=by
 refine F.ok iI (λvs H Q E h=>?_) (λeJ A outer s H vs Q E hr h=>?_)
 .obtain⟨R,rs,aa,d,fl,c',pm,gF,kvs,ks,g,rfl,_⟩:=h;rfl
 obtain⟨R,rs,aa,d,fl,c',pm,gF,kvs,ks,g,rfl,hR,cS,br,h8,hd,hk,Ny,hkl,hv,⟨n0,Tx⟩,Hr,mR,qq⟩:=h;have hu:=fV hr;refine⟨_,aj (aC (i:=3) iI.nd rfl (bA rfl) dU)
  (aj (kZ b8 (dF (pv 3))
   (aj (aC (i:=3) iI.nd rfl (bA rfl) dU)
   (ak (bJ b8 rfl (aX (pv 0)) (gO rfl (aA (ao (i:=4) iI.nd rfl (bA rfl)) (aA (ao (i:=5) iI.nd rfl (bA rfl)) bU)))
    (ak (bT (dF (aF (gB rfl) rfl T.all boot_all (ab (ba ["part"] [(1,"sizes")] rfl (fA (pv 5)) (a9 rfl rfl) (by decide +kernel) rfl (by decide +kernel)
       (λ_ _ _ _ _=>ao (i:=0) (show (["part","sizes"]:List Str).Nodup by decide +kernel) rfl (bA rfl)) (λ_ _ _ _ _=>bO) (λ_ _ _ _ _=>sq (jb hu (pv 0) (pv 1)))) ah)))
     (aj (aC (i:=6) iI.nd rfl (bA rfl) (aZ fY ar (aF (u6 rfl) rfl T.sum PyProof.Rows.boot_sum (ab (ba ["part"] [(1,"sizes")] rfl (fA (pv 5)) (a9 rfl rfl) (by decide +kernel) rfl (by decide +kernel)
       (λ_ _ _ _ _=>ao (i:=0) (show (["part","sizes"]:List Str).Nodup by decide +kernel) rfl (bA rfl)) (λ_ _ _ _ _=>bO) (λ_ _ _ _ _=>eG hu (pv 1) (pv 0) (λ_ _=>rfl))) ah))))
     (ak (bT (PW.pt (kY (dG (dW hu (pv 4) (pv 1))) (jJ (dF (Aj (i:=2) (k:=0) rfl rfl S hr om jr (ab (pv 6) (ab (eG hu (pv 1) (pv 4) (λ_ _=>rfl)) ah)))))))
      (aj (iB hu (pv 1) (pv 4) (pv 6) rfl) (ak (aC (i:=3) iI.nd rfl (bA rfl) dU))) aS))) aS))))))
  (ak (aQ (pv 1)))),?_⟩
 nofun
 have ll:=a_ cS;have S0:xw K aa ks H H d kvs ks g:=⟨λ_ _ _ e=>e,hd,hk,Ny,λx hx=>iG _ hx,hv⟩;refine⟨λm σ H5=>∃(fR:List (aL×V)) (Th:List Str)(g2:G)(ch:Bool)(y4 y5 y6:Option V),σ=[aM R,aM d,aM fl,some (.bl ch),y4,y5,y6]/\xw K aa ks H H5 d fR Th g2/\d_ bt aa g g2 /\
  ((ch=true/\∃n,m=n+1/\pU bt aa n g2)\/(ch=false/\i5 bt aa g2)),⟨n0+1,kvs,ks,g,true,none,none,none,rfl,S0,.refl,.inl ⟨rfl,n0,rfl,Tx⟩⟩,?_⟩
 rintro m σ H5 ⟨fR,Th,g2,ch,y4,y5,y6,rfl,S2,EI,cs⟩;refine⟨_,rfl,ch,rfl,?_⟩;refine cD (λc=>?_) (λc=>?_)
 .rcases cs with ⟨_,n,em,en⟩ | ⟨c',_⟩
  case inr=>rw [c'] at c;cases c
  refine⟨λσ H6=>∃(mM:List (aL×V)) (EM:List Str)(g3:G)(yV:Bool)(y4 y5 y6:Option V),σ=[aM R,aM d,aM fl,some (.bl yV),y4,y5,y6]/\xw K aa ks H H6 d mM EM g3/\(g3,yV)=ub bt aa g2,?_,?_⟩
  .rintro σ H6 ⟨mM,EM,g3,yV,y4,y5,y6,rfl,S3,e3⟩;have XQ:g3=(ub bt aa g2).1:=congrArg Prod.fst e3;have Oh:yV=(ub bt aa g2).2:=congrArg Prod.snd e3;have P0:d_ bt aa g g3:=by
    rw [XQ];exact EI.trans (sV bt aa aa (g2,false) λ_ h=>h)
   cases h3:yV with
   | false =>
    rw [h3] at Oh;obtain⟨f1,f2⟩:=sX bt aa (g2,false) Oh.symm;refine⟨0,by omega,mM,EM,g3,false,_,_,_,rfl,S3,P0,.inr ⟨rfl,?_⟩⟩;have e33:g3=g2:=XQ.trans f1;rw [e33];exact f2
   | true =>
    rw [h3] at Oh;cases n with
    | zero=>rw [show (ub bt aa g2).2=false from en] at Oh;cases Oh
    | succ n' =>
     rcases en with en | en
     .rw [en] at Oh;cases Oh
     exact⟨n'+1,by omega,mM,EM,g3,true,_,_,_,rfl,S3,P0,.inl ⟨rfl,n',rfl,by rw [XQ];exact en⟩⟩
  refine⟨_,rfl,R,rfl,⟨_,S2.sm.seq hd hR⟩,?_⟩;refine cQ (xs:=rs.map V.ref) (λi σ H6=>∃(mM:List (aL×V)) (EM:List Str)(g3:G)(yV:Bool)(y4 y5 y6:Option V),σ=[aM R,aM d,aM fl,some (.bl yV),y4,y5,y6]/\xw K aa ks H H6 d mM EM g3/\(g3,yV)=(aa.take i).foldl (sstep bt) (g2,false))
   ⟨fR,Th,g2,false,_,_,_,rfl,S2,rfl⟩ ?_ ?_ ?_
  .rintro i σ H6 _ ⟨mM,EM,g3,yV,y4,y5,y6,rfl,S3,_⟩;exact S3.sm.seq hd hR
  .rintro i x σ H6 ex ⟨mM,EM,g3,yV,y4,y5,y6,rfl,S3,e3⟩;rw [bo] at ex;obtain⟨r,er,rfl⟩:=cf.mp ex;obtain⟨ru,e1,p,v1,v2⟩:=cS.get er;have jT:=bZ e1;have OW:=h8 ru jT;have fo:(aa.take (i+1)).foldl (sstep bt) (g2,false)=sstep bt (g3,yV) ru:=by
    rw [cP,e1,vw,<-e3];rfl
   rw [fo];have UJ:=S3.sm.tup hd v2;refine⟨r,_,rfl,S3.sm.tup hd v1,rfl,_,_,rfl,_,_,rfl,rfl,?_⟩;refine⟨_,rfl,p,rfl,⟨_,UJ⟩,λD2 i4=>u5 rfl UJ (by omega) S3.hd i4 λH7 YO hd7=>?_⟩;have S4:=S3.same YO;have v4:=YO.tup UJ;have eb:(ru.2.map λz=>(bf mM (Sum.inr z)).isSome).all id=lI g3 ru:=by
    unfold lI;rw [List.all_map];refine List.all_congr rfl λz=>?_;show (bf mM (Sum.inr z)).isSome=_;rw [S3.val,o7]
   refine⟨D2,_,rfl,aG.of hd7,_,rfl,?_⟩;rw [eb];refine cD (λc4=>?_) (λc4=>?_)
   .have al:∀z∈ru.2,(g3 z).isSome=true:=λz hz=>gq.mp c4 z hz;refine⟨_,rfl,p,rfl,⟨_,v4⟩,λD3 yz=>Er (g:=g3) rfl v4 (by omega) S4.hd S4.val al yz λH8 OF Rv=>?_⟩;have S5:=S4.same OF;have esz:1+(ru.2.map λz=>(g3 z).getD 0).sum=aT g3 ru:=rfl;refine⟨D3,_,rfl,aG.of Rv,_,_,rfl,rfl,?_⟩;have mem:(bf mM (Sum.inr ru.1)).isSome=(g3 ru.1).isSome:=by rw [S5.val,o7]
    have fl5:=S5.sm fl _ (λz=>by rw [z,hd] at Hr;cases Hr) Hr;have c5':=S5.sm c' _ (λz=>by rw [z,hd] at mR;cases mR) mR;have l5:=S5.len;refine⟨_,rfl,_,rfl,d,_,rfl,bW.k (k:=Sum.inr ru.1) S5.hd,_,rfl,?_⟩;refine cD (λc5=>?_) (λc5=>?_)
    .have fr:cT bt g3 ru=true:=by
      unfold cT;rw [<-mem,c4,c5];rfl
     refine⟨_,rfl,_,rfl,_,rfl,d,_,rfl,pV.k (k:=Sum.inr ru.1) S5.hd (bE (by omega)),?_⟩;exact⟨_,_,eF g3 ru.1 (aT g3 ru),true,_,_,_,rfl,S5.put jT (aT g3 ru),(ax fr).symm⟩
    have isS:(g3 ru.1).isSome=true:=by
     rw [mem] at c5;cases hq:(g3 ru.1).isSome with
     | true=>rfl
     | false=>rw [hq] at c5;exact absurd rfl c5
    obtain⟨k,ek⟩:=lW.mp isS;have hg:bW H8 d (.str ru.1) (some (.int k)):=by
     have:=bW.k (k:=Sum.inr ru.1) S5.hd;rw [S5.val,ek] at this;exact this
    refine⟨fl,pm,c',gF,rfl,_,rfl,_,rfl,_,rfl,d,_,rfl,hg,fl5,c5',rfl,QZ (aT g3 ru) k _ _ ⟨_,rfl,?_⟩⟩;refine cD (λc6=>?_) (λc6=>?_)
    .have fr:cT bt g3 ru=true:=by
      unfold cT;rw [c4,ek];show (true && (false || bt (aT g3 ru) k))=true
      rw [c6];rfl
     refine⟨_,rfl,_,rfl,_,rfl,d,_,rfl,pV.k (k:=Sum.inr ru.1) S5.hd (bE (by omega)),?_⟩;exact⟨_,_,eF g3 ru.1 (aT g3 ru),true,_,_,_,rfl,S5.put jT (aT g3 ru),(ax fr).symm⟩
    have fr:¬cT bt g3 ru=true:=by
     unfold cT;rw [c4,ek];show ¬(true && (false || bt (aT g3 ru) k))=true
     rw [ro.mpr c6];exact(by decide)
    exact⟨mM,EM,g3,yV,_,_,_,rfl,S5,(aw fr).symm⟩
   have e5:sstep bt (g3,yV) ru=(g3,yV):=aw (λz=>c4 (by unfold cT at z;exact(fj.mp z).1));exact⟨mM,EM,g3,yV,_,_,_,rfl,S4,e5.symm⟩
  rintro σ H6 ⟨mM,EM,g3,yV,y4,y5,y6,rfl,S3,e3⟩;rw [av,ll,cO] at e3;exact⟨mM,EM,g3,yV,_,_,_,rfl,S3,e3⟩
 rcases cs with ⟨c',_⟩ | ⟨_,se⟩
 .rw [c'] at c;exact absurd rfl c
 exact⟨_,rfl,qq fR Th g2 H5 S2.sm S2.hd S2.keys S2.val EI se (by have:=S2.len;omega)⟩
end
end gR
namespace M11
open PySem L2
theorem fold_lt {bt:Int->Int->Bool}{aa:List au}{J:G->Prop}{r:G->G->Prop}(tr:∀a b c,r a b->r b c->r a c)
  (mY:∀g ru,J g->ru∈aa->cT bt g ru=true->J (eF g ru.1 (aT g ru))/\r (eF g ru.1 (aT g ru)) g) :
  ∀(l:List au)(a:G×Bool),(∀ru∈l,ru∈aa)->J a.1->J (l.foldl (sstep bt) a).1/\(l.foldl (sstep bt) a=a\/r (l.foldl (sstep bt) a).1 a.1)
 | [],a,_,j=>⟨j,.inl rfl⟩
 | ru::l,a,h,j=>by
  by_cases c:cT bt a.1 ru=true
  .have e:sstep bt a ru=(eF a.1 ru.1 (aT a.1 ru),true):=ax c;obtain⟨j1,r1⟩:=mY a.1 ru j (h ru cI) c;obtain⟨j2,r2⟩:=fold_lt tr mY l (eF a.1 ru.1 (aT a.1 ru),true) (λx hx=>h x (cV _ hx)) j1;rw [List.foldl_cons,e];refine⟨j2,.inr ?_⟩;rcases r2 with r2 | r2
   .rw [r2];exact r1
   exact tr _ _ _ r2 r1
  have e:sstep bt a ru=a:=aw c;rw [List.foldl_cons,e];exact fold_lt tr mY l a (λx hx=>h x (cV _ hx)) j
def yH {bt:Int->Int->Bool}{aa:List au}{J:G->Prop}{r:G->G->Prop}(tr:∀a b c,r a b->r b c->r a c)
  (mY:∀g ru,J g->ru∈aa->cT bt g ru=true->J (eF g ru.1 (aT g ru))/\r (eF g ru.1 (aT g ru)) g){g:G}(h:Acc r g)(j:J g):∃n,pU bt aa n g:=by
 induction h with
 | intro g _ ih =>
  cases c:(ub bt aa g).2 with
  | false=>exact⟨0,c⟩
  | true =>
   obtain⟨j2,r2⟩:=fold_lt tr mY aa (g,false) (λ_ h=>h) j;have r3:r (ub bt aa g).1 g:=by
    rcases r2 with r2 | r2
    .have e:(ub bt aa g)=(g,false):=r2;rw [e] at c;cases c
    exact r2
   obtain⟨n,hn⟩:=ih _ r3 j2;exact⟨n+1,.inr hn⟩
def d_.keep {bt:Int->Int->Bool}{aa:List au}{J:G->Prop}(mY:∀g ru,J g->ru∈aa->cT bt g ru=true->J (eF g ru.1 (aT g ru))){g g':G}(h:d_ bt aa g g')(j:J g):J g':=by
 induction h with
 | refl=>exact j
 | step _ a b ih=>exact mY _ _ ih a b
def fq (f:Str->Nat) (hs:List Str):Nat:=(hs.map f).sum
theorem xH {f k:Str->Nat}:∀{hs:List Str},(∀x∈hs,f x<=k x)->fq f hs<=fq k hs
 | [],_=>aD _
 | h::r,q=>by
  have h1:=q h cI;have h2:=xH (hs:=r) λx hx=>q x (cV _ hx);show f h+fq f r<=k h+fq k r;omega
theorem nH {f k:Str->Nat}:∀{hs:List Str}{h:Str},(∀x∈hs,f x<=k x)->h∈hs->f h < k h->fq f hs < fq k hs
 | a::r,h,q,m,l=>by
  have h1:=q a cI;have h2:∀x∈r,f x<=k x:=λx hx=>q x (cV _ hx);show f a+fq f r < k a+fq k r;rcases bX.mp m with z | z
  .have:=xH h2;rw [z] at l;omega
  have:=nH h2 z l;omega
theorem jE (g:G)(J:∀z n,g z=some n->(0:Int)<=n):∀ps:List Str,0<=(ps.map λp=>(g p).getD 0).sum
 | []=>by simp
 | p::r=>by
  have h1:=jE g J r;have h2:0<=(g p).getD 0:=by
   cases e:g p with
   | none=>exact oM _
   | some n=>exact J p n e
  rw [cN,kP];omega
def NN (g:G):Prop:=∀z n,g z=some n->(0:Int)<=n
def wI {g:G}(j:NN g)(ru:au):NN (eF g ru.1 (aT g ru)):=λz n e=>by
 unfold eF at e;by_cases c:z=ru.1
 .rw [ax c] at e;cases e;have:=jE g j ru.2;unfold aT;omega
 rw [aw c] at e;exact j z n e
def bl (a b:Int):Bool:=decide (a < b)
def bg (a b:Int):Bool:=decide (a > b)
def AE (hs:List Str)(g' g:G):Prop :=
 fq (λh=>if (g' h).isSome then 0 else 1) hs < fq (λh=>if (g h).isSome then 0 else 1) hs \/
 (fq (λh=>if (g' h).isSome then 0 else 1) hs=fq (λh=>if (g h).isSome then 0 else 1) hs/\fq (λh=>((g' h).getD 0).toNat) hs < fq (λh=>((g h).getD 0).toNat) hs)
def JY (hs:List Str)(g:G):Acc (AE hs) g:=by
 have wf:=(Prod.lex (β:=Nat) (α:=Nat) ⟨(· < ·),Nat.lt_wfRel.wf⟩ ⟨(· < ·),Nat.lt_wfRel.wf⟩).wf;have key:∀p:Nat×Nat,∀g:G,(fq (λh=>if (g h).isSome then 0 else 1) hs,fq (λh=>((g h).getD 0).toNat) hs)=p->Acc (AE hs) g:=λp=>by
  induction p using wf.induction with
  | _ p ih =>
   intro g e;refine⟨g,λg' r=>ih _ ?_ g' rfl⟩;rw [<-e];rcases r with r | ⟨r1,r2⟩
   .exact Prod.Lex.left _ _ r
   show Prod.Lex _ _ (fq (λh=>if (g' h).isSome then 0 else 1) hs,_) _;rw [r1];exact Prod.Lex.right _ r2
 exact key _ g rfl
def Na (hs:List Str)(a b c:G)(h:AE hs a b)(k:AE hs b c):AE hs a c:=by
 unfold AE at *;omega
def G5 {aa:List au}(g:G)(ru:au)(j:NN g)(m:ru∈aa)(f:cT bl g ru=true):NN (eF g ru.1 (aT g ru))/\AE (aa.map (·.1)) (eF g ru.1 (aT g ru)) g:=by
 refine⟨wI j ru,?_⟩;have hm:ru.1∈aa.map (·.1):=j9 m;have nn:=wI j ru;have vh:eF g ru.1 (aT g ru) ru.1=some (aT g ru):=ax rfl;have ne:∀z,z≠ru.1->eF g ru.1 (aT g ru) z=g z:=λz n=>aw n;unfold cT at f;have f2:=(fj.mp f).2;cases e:g ru.1 with
 | none =>
  refine .inl (nH (λx _=>?_) hm ?_)
  .by_cases c:x=ru.1
   .show (if (eF g ru.1 (aT g ru) x).isSome then 0 else 1)<=_;rw [c,vh];exact fh _
   show (if (eF g ru.1 (aT g ru) x).isSome then 0 else 1)<=_;rw [ne x c];exact aD _
  show (if (eF g ru.1 (aT g ru) ru.1).isSome then 0 else 1) < (if (g ru.1).isSome then 0 else 1);rw [vh,e];show 0 < 1;exact Nat.one_pos
 | some k =>
  rw [e] at f2;have lt:aT g ru < k:=dw (by simpa [bl] using f2);have h0:=nn ru.1 _ vh;refine .inr ⟨?_,nH (λx _=>?_) hm ?_⟩
  .unfold fq
   congr 1
   refine List.map_congr_left λx _=>?_;by_cases c:x=ru.1
   .show (if (eF g ru.1 (aT g ru) x).isSome then 0 else 1)=(if (g x).isSome then 0 else 1);rw [c,vh,e];rfl
   show (if (eF g ru.1 (aT g ru) x).isSome then 0 else 1)=(if (g x).isSome then 0 else 1);rw [ne x c]
  .by_cases c:x=ru.1
   .show ((eF g ru.1 (aT g ru) x).getD 0).toNat<=((g x).getD 0).toNat;rw [c,vh,e];show (aT g ru).toNat<=k.toNat;omega
   show ((eF g ru.1 (aT g ru) x).getD 0).toNat<=((g x).getD 0).toNat;rw [ne x c];exact aD _
  show ((eF g ru.1 (aT g ru) ru.1).getD 0).toNat < ((g ru.1).getD 0).toNat;rw [vh,e];show (aT g ru).toNat < k.toNat;omega
def AF (aa:List au)(g:G)(j:NN g):∃n,pU bl aa n g:=yH (Na (aa.map (·.1))) (λg ru=>G5 g ru) (JY _ g) j
inductive Em (aa:List au):Str->Prop
 | mk {ru:au}:ru∈aa->(∀p∈ru.2,Em aa p)->Em aa ru.1
def zj (aa:List au)(b:Str->Int):Prop:=(∀z,0<=b z)/\∀ru∈aa,(∀p∈ru.2,Em aa p)->1+(ru.2.map b).sum<=b ru.1
def GJ (aa:List au)(b:Str->Int)(g:G):Prop:=∀z n,g z=some n->0<=n/\n<=b z/\Em aa z
theorem By {aa:List au}{b:Str->Int}{g:G}(j:GJ aa b g)(hb:∀z,0<=b z):∀ps:List Str,(ps.map λp=>(g p).getD 0).sum<=(ps.map b).sum
 | []=>by simp
 | p::r=>by
  have h1:=By j hb r;have h2:(g p).getD 0<=b p:=by
   cases e:g p with
   | none=>exact hb p
   | some n=>exact(j p n e).2.1
  rw [cN,kP,cN,kP];omega
def gm (b:Str->Int)(g:G)(h:Str):Nat:=if (g h).isSome then (b h - (g h).getD 0).toNat else (b h).toNat+1
def sQ {aa:List au}{b:Str->Int}(B:zj aa b)(g:G)(ru:au)(j:GJ aa b g)(m:ru∈aa)(f:cT bg g ru=true) :
  GJ aa b (eF g ru.1 (aT g ru))/\fq (gm b (eF g ru.1 (aT g ru))) (aa.map (·.1)) < fq (gm b g) (aa.map (·.1)):=by
 have hm:ru.1∈aa.map (·.1):=j9 m;have vh:eF g ru.1 (aT g ru) ru.1=some (aT g ru):=ax rfl;have ne:∀z,z≠ru.1->eF g ru.1 (aT g ru) z=g z:=λz n=>aw n;unfold cT at f;obtain⟨f1,f2⟩:=fj.mp f;have em:∀p∈ru.2,Em aa p:=λp hp=>by
  obtain⟨n,en⟩:=lW.mp (gq.mp f1 p hp);exact(j p n en).2.2
 have bd:=B.2 ru m em;have sb:=By j B.1 ru.2;have s0:=jE g (λz n e=>(j z n e).1) ru.2;have sz:0<=aT g ru/\aT g ru<=b ru.1:=by unfold aT;omega
 refine⟨λz n e=>?_,nH (λx _=>?_) hm ?_⟩
 .by_cases c:z=ru.1
  .rw [c,vh] at e;cases e;rw [c];exact⟨sz.1,sz.2,.mk m em⟩
  rw [ne z c] at e;exact j z n e
 .by_cases c:x=ru.1
  .rw [c];unfold gm;rw [vh];show (b ru.1 - aT g ru).toNat<=_;cases e:g ru.1 with
   | none=>show _<=(b ru.1).toNat+1;omega
   | some k =>
    rw [e] at f2;have lt:aT g ru > k:=dw (by simpa [bg] using f2);show _<=(b ru.1 - k).toNat;omega
  unfold gm;rw [ne x c];exact aD _
 unfold gm;rw [vh];show (b ru.1 - aT g ru).toNat < _;cases e:g ru.1 with
 | none=>show _ < (b ru.1).toNat+1;omega
 | some k =>
  rw [e] at f2;have lt:aT g ru > k:=dw (by simpa [bg] using f2);show _ < (b ru.1 - k).toNat;omega
def AS {aa:List au}{b:Str->Int}(B:zj aa b)(g:G)(j:GJ aa b g):∃n,pU bg aa n g :=
 yH (r:=λg' g=>fq (gm b g') (aa.map (·.1)) < fq (gm b g) (aa.map (·.1))) (λ_ _ _ h k=>jA h k) (sQ B) ((InvImage.wf (λg:G=>fq (gm b g) (aa.map λx:au=>x.1)) Nat.lt_wfRel.wf).apply g) j
def yA {aa:List au}{b:Str->Int}(B:zj aa b){g g':G}(h:d_ bg aa g g')(j:GJ aa b g):GJ aa b g':=h.keep (λg ru a m f=>(sQ B g ru a m f).1) j
end M11
namespace L2
open PySem
def qk {K:a8}{H:Hp}{p D:Addr}{zs:List Str}{σ:St}{v:V}{x:Str}{Qp:Hp->Prop}(hp:aG K H p (zs.map V.str))(hz:zs.length<=10000)(hD:H D=none)
  (q:∀ts H2,aB H H2->H2 D=some (.lst (ts.map V.ref))->Paired (λt h=>aR K H2 t [.str h,v]) ts zs->Qp H2) :
  ∃W:Nat->Nat->List V->St->Hp->Prop,(∃m,W 0 m [] (dN [x] [] σ) (upd H D (.lst []))) /\
 ∀i m ys σ' H,W i m ys σ' H->((kj K p).stop i H/\Qp H)\/((kj K p).go i H/\∃m',m' < m/\∀x H',(kj K p).mD i H x H'->dJ 0 x σ' H' λσ2 H2=>hV σ2 H2 λb H3 =>
  if b=true then ua (gL (gC 0) (gL (tC v) rM)) σ2 H3 λy H4=>H4 D=some (.lst ys)/\ys.length < sizeLine/\W (i+1) m' (ys++[y]) σ2 (upd H4 D (.lst (ys++[y]))) else W (i+1) m' ys σ2 H3):=by
 refine cH (xs:=zs.map V.str) (λi ys σ2 H2=>∃ts:List Addr,ys=ts.map V.ref/\ts.length=i/\Paired (λt h=>aR K H2 t [.str h,v]) ts (zs.take i)/\(∃y0,σ2=[y0])/\aB H H2/\H2 D=some (.lst ys))
  ⟨[],rfl,rfl,.nil,⟨none,rfl⟩,af hD _,ae⟩ (λi ys σ2 H2 _ h=>?_) (λi x ys σ2 H2 ex h=>?_) (λys σ2 H2 h=>?_)
 .obtain⟨_,_,_,_,_,sm,_⟩:=h;exact sm.seq hp
 .obtain⟨ts,rfl,ht,qy,⟨y0,rfl⟩,sm,hd⟩:=h;rw [bo] at ex;obtain⟨z,ez,rfl⟩:=cf.mp ex;have li:=(bj.mp ez).1;refine goN (yB ?_);refine⟨_,rfl,oJ,λt jy=>⟨?_,bE (by rw [av];omega),ts++[t],?_,?_,?_,⟨_,rfl⟩,?_,ae⟩⟩
  .rw [ai (az hd jy)];exact hd
  .rw [bF];rfl
  .rw [bp,ht];rfl
  .rw [cP,ez];have je:upd H2 t (.tup [.str z,v]) D=some (.lst (ts.map V.ref)):=by rw [ai (az hd jy)];exact hd
   exact gW (Paired.eI qy λt' h' z=>aW je ((af jy _).tup z)) (aW je (aR.of ae))
  intro b o hb;rw [ai (λz=>by rw [z,hD] at hb;cases hb)];exact af jy _ _ _ (sm b o hb)
 obtain⟨ts,rfl,ht,qy,_,sm,hd⟩:=h;rw [av,cO] at qy;exact q ts H2 sm hd qy
def Tab.same {T:Addr}{pos:Pos}{qual:Str}{H H':Hp}(h:Tab T pos qual H)(s:aB H H'):Tab T pos qual H':=by
 obtain⟨ps,a,b,c⟩:=h;refine⟨ps,s _ _ a,b,c.imp id ?_⟩;rintro⟨c',e,g⟩;exact⟨c',e,s _ _ g⟩
def Tab.xW {T d:Addr}{pos:Pos}{qual:Str}{H H':Hp}{kvs:List (aL×V)}(h:Tab T pos qual H)(s:cX d H H')(hd:H d=some (.dK kvs)):Tab T pos qual H':=by
 obtain⟨ps,a,b,c⟩:=h;refine⟨ps,s _ _ (λz=>by rw [z,hd] at a;cases a) a,b,c.imp id ?_⟩;rintro⟨c',e,g⟩;exact⟨c',e,s _ _ (λz=>by rw [z,hd] at g;cases g) g⟩
structure ze (K:a8)(x qual:Str)(st:Stmt)(f:Addr)(fd:FuncData)(T:Addr):Prop where
 ex:∃(oc:Value)(od:Option Addr)(kV doc pm:Value)(an:Option Addr)(c:Addr)(ct:Value)(wG:Array (Option Value)),
  fd=PySem.W.fnOf x qual (dA st) (cv st) (ay st) .none kV doc pm an (.ref c) ct/\K.lookup f=some ⟨oc,od,.func fd,wG⟩/\PySem.W.codeIn K (.ref c) qual=true/\PySem.W.codeHdIn K c T=true
 kp:PySem.W.keepIn K (.ref f)=true
def ze.ok {P:Program}{w:World}{K:a8}{mg:Str->Option Value}{base:Heap}{x qual:Str}{st:Stmt}{f:Addr}{fd:FuncData}{T:Addr}{N ps:List Str}{k:Nat}{sp:Sp}(F:ze K x qual st f fd T)(S:aI N ps (ay st))(len:∀vs H Q E,sp vs H Q E->vs.length=ps.length)
  (jr:∀(c:Addr)(A:Around)(outer:List Env)(s:Shared)(H:Hp)(vs:List V)(Q:VK)(E:XK),PySem.W.codeHdIn K c T=true->fg k (A.deeper (PyProof.Rows.envOfC qual (ay st) s.heap.objs.size f (.ref c)))->sp vs H Q E ->
   ∃t,Bj (pR fX P w K mg base N qual (ay st) f (.ref c) A outer s H E).Dt (cv st) t/\t { nx:=λ_ H'=>Q .eU H',rt:=Q } (start N vs) H):bQ P w K mg base fX (k+1) f fd ps sp:=by
 obtain⟨oc,od,kV,doc,pm,an,c,ct,wG,rfl,lk,wY,hC⟩:=F.ex;refine HK lk wY S len λA outer s H vs Q E hr zr=>?_;obtain⟨t,h,q⟩:=jr c A outer s H vs Q E hC hr zr;exact⟨t,h.Dt,q⟩
theorem uN {v:V}:∀(hs:List Str)(bH:List (aL×V)) (as:List Str),bH.map (·.1)=as.map Sum.inr->(c_ (hs.map λh=>((Sum.inr h:aL),v)) bH).map (·.1)=(M11.xc as hs).map Sum.inr
 | [],bH,as,e=>e
 | h::r,bH,as,e=>uN r (bK bH (Sum.inr h) v) (M11.ie as h) (gR.lh e h)
theorem ny {v:V}:∀(hs:List Str)(bH:List (aL×V))(z:Str),bf (c_ (hs.map λh=>((Sum.inr h:aL),v)) bH) (Sum.inr z)=if z∈hs then some v else bf bH (Sum.inr z)
 | [],bH,z=>by simp [c_]
 | h::r,bH,z=>by
  have ih:=ny (v:=v) r (bK bH (Sum.inr h) v) z;show bf (c_ (r.map λh=>((Sum.inr h:aL),v)) (bK bH (Sum.inr h) v)) (Sum.inr z)=_;rw [ih,rK];by_cases c:z∈r
  .rw [ax c,ax (cV _ c)]
  rw [aw c];by_cases c2:z=h
  .rw [ax (by rw [c2]),ax (by rw [c2];exact cI)]
  rw [aw (λe=>c2 (mj e)),aw (λe=>(bX.mp e).elim c2 c)]
end L2
namespace gR
open PySem L2 M11
def QH:List Stmt->Arguments×Expr×Scope×Pos
 | [.Return (some (.Call _ [_,_,.Lambda p b s pos] _ _)) _]=>(p,b,s,pos)
 | _=>(⟨[],[],none,[],[],none,[]⟩,.Constant .none 0 ⟨0,0,0,0⟩,ay r_,⟨0,0,0,0⟩)
abbrev sH:=QH (cv r_)
abbrev AD:=QH (cv wj)
abbrev zq:Str := "least_sizes" ++ ".<locals>." ++ "<lambda>"
abbrev Lc:Str := "greatest_empty_sizes" ++ ".<locals>." ++ "<lambda>"
def Mt:aI ["size","known"] ["size","known"] sH.2.2.1:=iS rfl rfl rfl rfl (by decide +kernel)
def Mu:aI ["size","known"] ["size","known"] AD.2.2.1:=iS rfl rfl rfl rfl (by decide +kernel)
section
def Aq (F:ix K "settled_sizes" "settled_sizes" nV f fd)(T:Txt mg):bQ P w K mg base fX 2 f fd ["rules","sizes","better"] (iH K zq sH.1 sH.2.1 sH.2.2.1 M11.bl) :=
 uL F T Mt (λpm gF c' us hl=>match us,hl with | [_,_],_=>rfl) (λ_ _ _ _ _ _=>ff qg (pv 0) (pv 1) (bV _)) (λa b H Q h=>⟨_,rfl,_,rfl,_,_,rfl,rfl,h⟩)
def Ar (F:ix K "settled_sizes" "settled_sizes" nV f fd)(T:Txt mg):bQ P w K mg base fX 2 f fd ["rules","sizes","better"] (iH K Lc AD.1 AD.2.1 AD.2.2.1 M11.bg) :=
 uL F T Mu (λpm gF c' us hl=>match us,hl with | [_,_],_=>rfl) (λ_ _ _ _ _ _=>ff ye (pv 0) (pv 1) (bV _)) (λa b H Q h=>⟨_,rfl,_,rfl,_,_,rfl,rfl,h⟩)
def zu (aa:List au):G:=λz=>if z∈tW (hd aa) [] (aa.flatMap (·.2)) then some 0 else none
def qF (K:a8)(T1:Addr):Sp:=λvs H Q _=>∃(R:Addr)(rs:List Addr)(aa:List au),vs=[.ref R]/\aG K H R (rs.map V.ref)/\bI K H rs aa/\aa.length<=1000/\(∀ru∈aa,ru.2.length<=8)/\Tab T1 sH.2.2.2 zq H /\
 ∀(d:Addr)(kvs:List (aL×V)) (ks:List Str)(g:G)(H':Hp),H d=none->cX T1 H H'->Tab T1 sH.2.2.2 zq H'->H' d=some (.dK kvs)->kvs.map (·.1)=ks.map Sum.inr->(∀z,bf kvs (Sum.inr z)=(g z).map V.int)->d_ M11.bl aa (zu aa) g->i5 M11.bl aa g->kvs.length<=20000->Q (.ref d) H'
def Jp:aI ["rules"] ["rules"] (ay r_):=iS rfl rfl rfl rfl (by decide +kernel)
def Gs {T1:Addr}(F:ze K "least_sizes" "least_sizes" r_ f fd T1)(T:Txt mg)(hB:tV mg base)(GW:aE P w K mg base 1 "words_in" ["rules"] (BG K))
  (GS:aE P w K mg base 2 "settled_sizes" ["rules","sizes","better"] (iH K zq sH.1 sH.2.1 sH.2.2.1 M11.bl)):bQ P w K mg base fX 3 f fd ["rules"] (qF K T1):=by
 refine F.ok Jp (λvs H Q E h=>?_) (λc A outer s H vs Q E hC hr h=>?_)
 .obtain⟨R,rs,aa,rfl,_⟩:=h;rfl
 obtain⟨R,rs,aa,rfl,hR,cS,br,h8,hT,q⟩:=h;refine⟨_,ak (aQ (bc GS hr rfl (ab (pv 0) (ab (aV (dO rfl) rfl T.A_ fM (ab
  (ba ["word"] [] rfl (aX (bc (GW.mono (by decide:1<=2)) hr rfl (ab (pv 0) ah))) (a9 rfl rfl) (by decide +kernel) rfl (by decide +kernel)
   (λ_ _ _ _ _=>ao (i:=0) (show (["word"]:List Str).Nodup by decide +kernel) rfl (bA rfl)) (λ_ _ _ _ _=>bO)
   (λ_ _ _ _ _=>bR (ab (pv 0) (ab ar ah)))) ah)) (ab (Ga (T:=T1) rfl hC hB (by decide +kernel)) ah))))),?_⟩
 dsimp only [Ba];refine⟨_,rfl,_,rfl,R,rs,aa,rfl,hR,cS,br,h8,λD1 H1 f1 s1 e1=>?_⟩;have lw:(tW (hd aa) [] (aa.flatMap (·.2))).length<=8000:=by
  have h1:=vO (hd aa) (aa.flatMap (·.2)) [];have h2:=ju aa 1000 br h8;simp only [iW] at h1;omega
 refine⟨D1,rfl,⟨_,aG.of e1⟩,λD2 i4=>qk (aG.of e1) (by omega) i4 λts H2 s2 e2 p2=>?_⟩;have kp:Paired (λt (kv:aL×V)=>aR K H2 t [kV kv.1,kv.2]) ts ((tW (hd aa) [] (aa.flatMap (·.2))).map λh=>((Sum.inr h:aL),V.int 0)):=cq p2 λ_ _ z=>z;refine⟨D2,ts,_,rfl,e2,kp,λd hd2=>?_⟩;have k1:=uN (v:=.int 0) (tW (hd aa) [] (aa.flatMap (·.2))) [] [] rfl;have k2:∀z,bf (c_ ((tW (hd aa) [] (aa.flatMap (·.2))).map λh=>((Sum.inr h:aL),V.int 0)) []) (Sum.inr z)=(zu aa z).map V.int:=λz=>by
  rw [ny];unfold zu
  split <;> rfl
 have lk:=iD (tW (hd aa) [] (aa.flatMap (·.2))) [];simp only [iW] at lk;generalize c_ ((tW (hd aa) [] (aa.flatMap (·.2))).map λh=>((Sum.inr h:aL),V.int 0)) []=QL at k1 k2;have s3:=(s1.trans s2).trans (af hd2 (.dK QL));have e3:upd H2 d (.dK QL) d=some (.dK QL):=ae;have zx:H d=none:=(s1.trans s2).free hd2;generalize upd H2 d (.dK QL)=H3 at s3 e3;refine⟨hT.same s3,λfl c' gF H4 s4 t4 ffl e4 XB=>?_⟩;have nT:d≠T1:=λz=>by
  obtain⟨ps,a,_⟩:=hT.same s3;rw [<-z,e3] at a;cases a
 have EU:=s4 d _ nT e3;have VI:∀{a xs},aR K H a xs->aR K H4 a xs:=λ{a xs} h=>by
  obtain⟨ps,b,_⟩:=hT;rcases h with (h | ⟨u,h⟩) | h
  .exact .inl (.inl (s4 _ _ (λz=>by rw [z,b] at h;cases h) (s3 _ _ h)))
  .exact .inl (.inr ⟨u,s4 _ _ (λz=>by rw [z,b] at h;cases h) (s3 _ _ h)⟩)
  exact .inr h
 have VJ:∀{a xs},aG K H a xs->aG K H4 a xs:=λ{a xs} h=>by
  obtain⟨ps,b,_⟩:=hT;rcases h with (h | ⟨u,h⟩) | h
  .exact .inl (.inl (s4 _ _ (λz=>by rw [z,b] at h;cases h) (s3 _ _ h)))
  .exact .inl (.inr ⟨u,s4 _ _ (λz=>by rw [z,b] at h;cases h) (s3 _ _ h)⟩)
  exact .inr h
 refine⟨R,rs,aa,d,fl,c',_,gF,QL,_,zu aa,rfl,VJ hR,cS.keep λ_ _ z=>VI z,br,h8,EU,k1,pQ _ kJ,by omega,k2,AF aa _ λz n e=>?_,e4,XB,λmN QM g' H5 s5 e5 k5 v5 st se Zq=>?_⟩
 .unfold zu at e
  split at e
  .cases e;exact oM _
  cases e
 refine q d mN QM g' H5 zx (λb o n hb=>s5 b o (λz=>?_) (s4 b o n (s3 b o hb))) (t4.xW s5 EU) e5 k5 v5 st se Zq;rw [z,zx] at hb;cases hb
def vW (K:a8)(T2:Addr):Sp:=λvs H Q _=>∃(R:Addr)(rs:List Addr)(aa:List au)(b:Str->Int),vs=[.ref R]/\aG K H R (rs.map V.ref)/\bI K H rs aa/\aa.length<=1000/\(∀ru∈aa,ru.2.length<=8)/\zj aa b/\Tab T2 AD.2.2.2 Lc H /\
 ∀(d:Addr)(kvs:List (aL×V)) (ks:List Str)(g:G)(H':Hp),H d=none->cX T2 H H'->Tab T2 AD.2.2.2 Lc H'->H' d=some (.dK kvs)->kvs.map (·.1)=ks.map Sum.inr->(∀z,bf kvs (Sum.inr z)=(g z).map V.int)->GJ aa b g->d_ M11.bg aa (λ_=>none) g->i5 M11.bg aa g->Q (.ref d) H'
def Js:aI ["rules"] ["rules"] (ay wj):=iS rfl rfl rfl rfl (by decide +kernel)
def Gv {T2:Addr}(F:ze K "greatest_empty_sizes" "greatest_empty_sizes" wj f fd T2)(hB:tV mg base)
  (GS:aE P w K mg base 2 "settled_sizes" ["rules","sizes","better"] (iH K Lc AD.1 AD.2.1 AD.2.2.1 M11.bg)):bQ P w K mg base fX 3 f fd ["rules"] (vW K T2):=by
 refine F.ok Js (λvs H Q E h=>?_) (λc A outer s H vs Q E hC hr h=>?_)
 .obtain⟨R,rs,aa,b,rfl,_⟩:=h;rfl
 obtain⟨R,rs,aa,b,rfl,hR,cS,br,h8,hBd,hT,q⟩:=h;refine⟨_,ak (aQ (bc GS hr rfl (ab (pv 0) (ab gP (ab (Ga (T:=T2) rfl hC hB (by decide +kernel)) ah))))),?_⟩;refine⟨_,rfl,λd zx=>?_⟩;have s3:=af zx (.dK []);have e3:upd H d (.dK []) d=some (.dK []):=ae;generalize upd H d (.dK [])=H3 at s3 e3;refine⟨hT.same s3,λfl c' gF H4 s4 t4 ffl e4 XB=>?_⟩;have nT:d≠T2:=λz=>by
  obtain⟨ps,a,_⟩:=hT.same s3;rw [<-z,e3] at a;cases a
 have EU:=s4 d _ nT e3;have VI:∀{a xs},aR K H a xs->aR K H4 a xs:=λ{a xs} h=>by
  obtain⟨ps,b,_⟩:=hT;rcases h with (h | ⟨u,h⟩) | h
  .exact .inl (.inl (s4 _ _ (λz=>by rw [z,b] at h;cases h) (s3 _ _ h)))
  .exact .inl (.inr ⟨u,s4 _ _ (λz=>by rw [z,b] at h;cases h) (s3 _ _ h)⟩)
  exact .inr h
 have VJ:∀{a xs},aG K H a xs->aG K H4 a xs:=λ{a xs} h=>by
  obtain⟨ps,b,_⟩:=hT;rcases h with (h | ⟨u,h⟩) | h
  .exact .inl (.inl (s4 _ _ (λz=>by rw [z,b] at h;cases h) (s3 _ _ h)))
  .exact .inl (.inr ⟨u,s4 _ _ (λz=>by rw [z,b] at h;cases h) (s3 _ _ h)⟩)
  exact .inr h
 have j0:GJ aa b (λ_=>none):=λz n e=>nomatch e;refine⟨R,rs,aa,d,fl,c',_,gF,[],[],λ_=>none,rfl,VJ hR,cS.keep λ_ _ z=>VI z,br,h8,EU,rfl,kJ,fh _,λ_=>rfl,AS hBd _ j0,e4,XB,λmN QM g' H5 s5 e5 k5 v5 st se Zq=>?_⟩;refine q d mN QM g' H5 zx (λb o n hb=>s5 b o (λz=>?_) (s4 b o n (s3 b o hb))) (t4.xW s5 EU) e5 k5 v5 (yA hBd st j0) st se;rw [z,zx] at hb;cases hb
end
end gR
namespace L2
open PySem PySem.Spec PyProof.Rows
def N7 (o:Obj):Nat:=match o.data with
 | .dict _ ep=>ep
 | _=>0
def Su (d:Addr)(o:Obj)(kvs:List (aL×V)):It :=
 ⟨λi H=>H d=some (.ku o (.dK kvs))/\i < kvs.length,λi H x H'=>H'=H/\∃kv,kvs[i]?=some kv/\x=kV kv.1,λi H=>H d=some (.ku o (.dK kvs))/\kvs.length<=i⟩
def AZ {X:Cx}{ag:List (Addr×Obj)}{σ:St}{H:Hp}{s:Shared}{d:Addr}{o:Obj}{kvs:List (aL×V)}(I:Inv X ag σ H s)(e:H d=some (.ku o (.dK kvs))) :
  (d == sysModules)=false/\∃vs,KV kvs vs/\s.heap.DictAt (bh X.prog X.w) d vs (N7 o):=by
 obtain⟨ho,hz,hs,vs,r,o',es,ep,h1,h2,h3,h4⟩:=(show cK X.prog X.w H s.heap d (.ku o (.dK kvs)) from I.bY d _ e);rw [ho] at h1;cases h1;refine⟨hs,vs,r,o,es,ho,h2,?_,h4⟩;unfold N7;rw [h3]
def CL {P:Program}{w:World}{K:a8}{tg:Expr}(d it:Addr)(o:Obj)(kvs:List (aL×V)):Turn P w K tg (Su d o kvs) [it] it (λi h=>h.IsKeyIter it d i kvs.length (N7 o)) where
 mem:=by simp
 obj:=λi h st b hb=>by
  have e:b=it:=by simpa using hb
  subst e;obtain⟨o,e,c,d⟩:=st;exact⟨o,e,λv z=>by rw [d] at z;cases z⟩
 keep:=λi h h' st k=>let ⟨o,e,r⟩:=st;⟨o,k it (by simp) o e,r⟩
 item:=by
  intro X hP hw hK hc i ag s σ H E I hf st hg;subst hP hw hK;obtain⟨hq,hi⟩:=hg;obtain⟨hs,vs,r,da⟩:=AZ I hq;have l:=r.length;obtain⟨kv,T6⟩:∃kv,kvs[i]?=some kv:=⟨kvs[i],b9 hi⟩;obtain⟨q,eq⟩:∃q,vs[i]?=some q:=⟨vs[i]'(by omega),b9 (by omega)⟩;have ek:kv.1=q.1:=by
   have:=congrArg (λl:List aL=>l[i]?) r.keys;simp only [bo,T6,eq] at this;exact iu this
  obtain⟨f0,f1,f2,f3,f4,f5⟩:=hf it (by simp);rw [l] at st;refine wpAny_pyNext_dict_item (k:=q.1) (v:=q.2) st da eq λkey h' hk uC sb=>?_;have I1:Inv X ag σ H { s with heap:=h' }:=I.turned (t':=s.toks) (λb o hb e=>(sb.2 b hb).trans e) f0 f1 f3 f4 f5;obtain⟨o2,e,c,dd⟩:=id uC;rw [<-l] at uC;exact⟨key,rfl,Ci (s:={ s with heap:=h' }) e c dd (by decide) ⟨kV kv.1,H,I1,by rw [ek];exact Lm hk,⟨rfl,kv,T6,rfl⟩,uC,λb hb=>(hf b hb).1⟩⟩
 done:=by
  intro X hP hw hK hc i ag s σ H E I hf st hg;subst hP hw hK;obtain⟨hq,hi⟩:=hg;obtain⟨hs,vs,r,da⟩:=AZ I hq;have l:=r.length;obtain⟨f0,f1,f2,f3,f4,f5⟩:=hf it (by simp);rw [l] at st;exact wpAny_pyNext_dict_end (I.ok.hd hc) st da (p_ (by omega)) λh' eb=>⟨rfl,I.turned (t':=s.toks) (λb o hb e=>eb b o hb e) f0 f1 f3 f4 f5⟩
 self:=λ_ _ _ _ _ st h=>wpAny_pyIter_keyiter st h
def QU (tl:TE):TI:=λσ H R=>tl σ H λx H1=>∃d kvs,x=.ref d/\H1 d=some (.dK kvs)/\∀o,R (Su d o kvs) (upd H1 d (.ku o (.dK kvs)))
def B7 {X:Cx}{tg l:Expr}{tl:TE}(hl:PE X l tl):PI X tg l (QU tl):=by
 intro ag s σ H R I h;refine cW (hl ag s σ H _ I h) λv s1 ⟨x,H1,I1,r1,q1⟩=>?_;obtain⟨d,kvs,e,hd,q⟩:=q1;subst e;cases r1;obtain⟨hz,hs,vs,r,o,es,ep,h1,h2⟩:=(show cK X.prog X.w H1 s1.heap d (.dK kvs) from I1.bY d _ hd);have I2:Inv X ag σ (upd H1 d (.ku o (.dK kvs))) { s1 with heap:=s1.heap,toks:=s1.toks }:=I1.write (x:=d) (e:=d) (by rw [hd];exact True.intro) (.inl rfl) (λb u _ e=>e) ⟨o,h1⟩ ⟨h1,hz,hs,vs,r,o,es,ep,h1,h2⟩;have e2:upd H1 d (.ku o (.dK kvs)) d=some (.ku o (.dK kvs)):=ae;obtain⟨_,Pr,r2,da⟩:=AZ I2 e2;have q2:=q o;generalize upd H1 d (.ku o (.dK kvs))=H2 at I2 e2 q2;refine wpAny_pyIter_dict hs da ?_;refine⟨s1.heap.objs.size,[s1.heap.objs.size],_,_,H2,rfl,I2.kept (t':=s1.toks) λb o e=>bG _ e,CL d _ o kvs,⟨_,cy _ rfl,rfl,by rw [r2.length];rfl⟩,λb hb=>?_,q2⟩;have e:b=s1.heap.objs.size:=by simpa using hb
 subst e;exact I2.wZ (aD _) (I2.bY.fresh (aD _))
section
variable {d D:Addr}{o:Obj}{kvs:List (aL×V)}{ts:List Str}{js:List (Nat×Str)}{g:TG}{tif:TT}{te:TE}{R:Hp->Prop}{σ:St}{H:Hp}
def tM (Pv:Nat->List V->St->Hp->Prop)(h0:Pv 0 [] (dN ts js σ) (upd H D (.lst [])))(hl:∀i ys σ H,i<=kvs.length->Pv i ys σ H->H d=some (.ku o (.dK kvs)))
  (hs:∀i kv ys σ H,kvs[i]?=some kv->Pv i ys σ H->g (kV kv.1) σ H λσ2 H2=>tif σ2 H2 λb H3=>if b=true then te σ2 H3 λy H4=>H4 D=some (.lst ys)/\ys.length < sizeLine/\Pv (i+1) (ys++[y]) σ2 (upd H4 D (.lst (ys++[y]))) else Pv (i+1) ys σ2 H3)
  (hd:∀ys σ H,Pv kvs.length ys σ H->R H) :
  ∃W:Nat->Nat->List V->St->Hp->Prop,(∃m,W 0 m [] (dN ts js σ) (upd H D (.lst []))) /\
 ∀i m ys σ' H,W i m ys σ' H->((Su d o kvs).stop i H/\R H)\/((Su d o kvs).go i H/\∃m',m' < m/\∀x H',(Su d o kvs).mD i H x H'->g x σ' H' λσ2 H2=>tif σ2 H2 λb H3 =>
  if b=true then te σ2 H3 λy H4=>H4 D=some (.lst ys)/\ys.length < sizeLine/\W (i+1) m' (ys++[y]) σ2 (upd H4 D (.lst (ys++[y]))) else W (i+1) m' ys σ2 H3):=by
 refine⟨λi m ys σ H=>m=kvs.length - i/\i<=kvs.length/\Pv i ys σ H,⟨kvs.length,by simp,fh _,h0⟩,?_⟩;rintro i m ys σ' H ⟨rfl,hi,p⟩;have q:=hl i ys σ' H hi p;by_cases jd:i < kvs.length
 .refine .inr ⟨⟨q,jd⟩,kvs.length - (i+1),by omega,λx H' y=>?_⟩;obtain⟨e,kv,T6,rfl⟩:=y;subst e;have z:=hs i kv ys σ' _ T6 p;have h1:(i+1<=kvs.length)=True:=eq_true jd;simp only [h1,true_and];exact z
 have e:i=kvs.length:=by omega
 subst e;exact .inl ⟨⟨q,aD _⟩,hd ys σ' H p⟩
end
def uZ {A:Around}{s:Shared}{l b:Addr}{ys xs:List Int}{aN d6:List Value}(r:aY (ys.map V.int) aN)(r2:aY (xs.map V.int) d6)(hl:s.heap.IsList l aN.toArray)(hb:s.heap.IsList b d6.toArray)(ne:l≠b)(hu:A.units < cLine) :
  SeqAt.EqAt A s (.ref l) (.ref b) (decide (ys=xs)):=by
 have l1:=r.length;have l2:=r2.length;rw [av] at l1 l2;by_cases br:ys.length=xs.length
 .have h:=SeqAt.RcAt.lists (A:=A) (e:=λj=>decide (ys[j]?=xs[j]?)) hl hb (by simp only [bN];omega) hu λj h1 h2=>?_
  .have e:((List.range aN.toArray.size).all λj=>decide (ys[j]?=xs[j]?))=decide (ys=xs):=by
    rw [m_,gq,decide_eq_true_iff];constructor
    .intro h;refine List.ext_getElem? λj=>?_;by_cases c:j < ys.length
     .exact dw (h j (jC.mpr (by simp only [bN];omega)))
     rw [p_ (by omega),p_ (by omega)]
    intro h j _;rw [h];exact bM rfl
   rw [e] at h;exact .of_refs ne h
  have k1:j < aN.length:=by simpa using h1
  have k2:j < d6.length:=by simpa using h2
  have e1:ys[j]?=some (ys[j]'(by omega)):=b9 (by omega);have e2:xs[j]?=some (xs[j]'(by omega)):=b9 (by omega);obtain⟨u1,f1,q1⟩:=r.get (show (ys.map V.int)[j]?=some (.int (ys[j]'(by omega))) by rw [bo,e1];rfl);obtain⟨u2,f2,q2⟩:=r2.get (show (xs.map V.int)[j]?=some (.int (xs[j]'(by omega))) by rw [bo,e2];rfl);have g1:aN.toArray[j]=u1:=by
   have:=(bj.mp f1).2;simpa using this
  have g2:d6.toArray[j]=u2:=by
   have:=(bj.mp f2).2;simpa using this
  rw [g1,g2,e1,e2];obtain⟨t1,rfl⟩:=q1;obtain⟨t2,rfl⟩:=q2;have:=SeqAt.EqAt.int_int (A:=A.in1) (s:=s) (ys[j]'(by omega)) t1 (xs[j]'(by omega)) t2;have e3:(ys[j]'(by omega) == xs[j]'(by omega))=decide (some (ys[j]'(by omega))=some (xs[j]'(by omega))):=by
   rw [m_,beq_iff_eq,decide_eq_true_iff,Option.some.injEq]
  rw [e3] at this;exact this
 have h:=SeqAt.RcAt.lists_lengths (A:=A) hl hb (by simp only [bN,bne_iff_ne];omega) hu;rw [cU (λz=>br (by rw [z]))];exact .of_refs ne h
def Dc {X:Cx}(hu:X.A.units+1 < cLine):kx X (compareOp .In) (λx y H Q=>∃t a l1 l2 xs ys zs,x=.ref a/\y=.ref t/\aR X.K H t [.ref l1,.ref l2]/\aG X.K H a (List.map V.int xs)/\aG X.K H l1 (List.map V.int ys)/\aG X.K H l2 (List.map V.int zs)/\l1≠a/\l2≠a /\
  Q (.bl (decide (ys=xs) || decide (zs=xs))) H):=by
 intro ag s σ H x y v u Q I rx ry h;obtain⟨t,a,l1,l2,xs,ys,zs,rfl,rfl,ht,ha,h1,h2,n1,n2,q⟩:=h;cases rx;cases ry;obtain⟨aN,r,pl,hz⟩:=I.tuple ht;obtain⟨u1,u2,rfl,q1,q2⟩:=vals2 r;cases (show u1=Value.ref l1 from q1);cases (show u2=Value.ref l2 from q2);obtain⟨xa,ra,pa,za⟩:=I.list ha;obtain⟨x1,r1,p1,z1⟩:=I.list h1;obtain⟨x2,r2,p2,z2⟩:=I.list h2;have e1:=uZ (A:=X.A.in1) (s:=s) r1 ra p1.isList pa.isList n1 hu;have e2:=uZ (A:=X.A.in1) (s:=s) r2 ra p2.isList pa.isList n2 hu;refine SeqAt.in_tupleAt (λy=>if y == .ref l1 then decide (ys=xs) else decide (zs=xs)) (show s.heap.IsTuple t #[.ref l1,.ref l2] from pl) (λy hy=>?_) ?_
 .have Wh:y=.ref l1\/y=.ref l2:=by simpa using hy
  by_cases c:y=.ref l1
  .subst c;rw [ax (oZ _)];exact e1
  rcases Wh with z | z
  .exact absurd z c
  subst z;rw [aw (λq=>c (eq_of_beq q))];exact e2
 refine⟨.bl (decide (ys=xs) || decide (zs=xs)),H,I,?_,q⟩
 show Value.bool _=Value.bool _
 congr 1
 by_cases c:l2=l1
 .subst c;have e3:=I.sI h1 h2;have e4:ys=zs:=by
   have:=congrArg (List.map λv:V=>match v with | .int n=>n | _=>0) e3
   simpa [iU,Function.comp_def] using this
  subst e4;simp
 simp [c]
end L2
namespace M11
open PySem L2
def DX (b:Str->Bool) (zs:List Str) (i:Nat):List Int:=((List.range i).filter λj=>!(zs[j]?.elim true b)).map λj:Nat=>(j:Int)
def yD (b:Str->Bool) (zs:List Str) (i:Nat){z:Str}(e:zs[i]?=some z):DX b zs (i+1)=DX b zs i++(if b z=true then [] else [(i:Int)]):=by
 unfold DX;rw [List.range_succ,o8,bF]
 congr 1
 by_cases h:b z=true
 .rw [ax h];simp [e,h]
 rw [aw h];simp [e,h]
def Ki (b:Str->Bool) (zs:List Str) (i:Nat):(DX b zs i).length<=i:=by
 unfold DX;rw [av];have:=rE (λj=>!(zs[j]?.elim true b)) (List.range i);rw [mx] at this;exact this
def JW (b:Str->Bool) (zs:List Str) (j:Nat):Bool:=decide ([]=DX b zs zs.length) || decide ([(j:Int)]=DX b zs zs.length)
def Pj (aa:List au) (names:List Str)(b:Str->Bool)(n:Str) (k j:Nat):Prop:=∃ru z,aa[k]?=some ru/\ru.1=n/\ru.2[j]?=some z/\z∈names/\JW b ru.2 j=true
end M11
namespace L2
open PySem M11
def jx (p:Str×Addr):aL×V:=(Sum.inr p.1,.ref p.2)
theorem oz:∀(ps bH:List (aL×V)),((bH++ps).map (·.1)).Nodup->c_ ps bH=bH++ps
 | [],bH,_=>by simp [c_]
 | p::r,bH,h=>by
  have n:bf bH p.1=none:=by
   cases e:bf bH p.1 with
   | none=>rfl
   | some v =>
    have hm:=(dP bH p.1).mp (by rw [e];rfl);rw [bF,cN] at h;exact absurd rfl ((j8.mp h).2.2 p.1 hm p.1 cI)
  show c_ r (bK bH p.1 p.2)=_;rw [x8 p.2 n,oz r (bH++[(p.1,p.2)]) (by rw [lU];exact h),lU];rfl
theorem gZ:∀(ps:List (Str×Addr)),(ps.map (·.1)).Nodup->∀p∈ps,bf (ps.map jx) (Sum.inr p.1)=some (.ref p.2)
 | q::r,h,p,hp=>by
  rw [cN] at h ⊢;rcases bX.mp hp with z | z
  .rw [z];exact eK rfl
  rw [eQ,gZ r (ng.mp h).2 p z];intro e;have e':q.1=p.1:=mj e;exact(ng.mp h).1 (by rw [e'];exact j9 z)
def n6 (ps:List (Str×Addr)):(ps.map jx).map (·.1)=(ps.map (·.1)).map Sum.inr:=by
 rw [iU,iU];rfl
def tL {K:a8}{H:Hp}{p D:Addr}{zs:List Str}{σ:St}{x:Str}{Qp:Hp->Prop}(hp:aG K H p (zs.map V.str))(hz:zs.length<=10000)(hD:H D=none)
  (q:∀ts (ps:List (Str×Addr)) H2,aB H H2->H2 D=some (.lst (ts.map V.ref))->ps.map (·.1)=zs->Paired (λt (p:Str×Addr)=>aR K H2 t [.str p.1,.ref p.2]) ts ps->(∀p∈ps,H2 p.2=some (.lst [])/\H p.2=none/\p.2≠D)->(ps.map (·.2)).Nodup->Qp H2) :
  ∃W:Nat->Nat->List V->St->Hp->Prop,(∃m,W 0 m [] (dN [x] [] σ) (upd H D (.lst []))) /\
 ∀i m ys σ' H,W i m ys σ' H->((kj K p).stop i H/\Qp H)\/((kj K p).go i H/\∃m',m' < m/\∀x H',(kj K p).mD i H x H'->dJ 0 x σ' H' λσ2 H2=>hV σ2 H2 λb H3 =>
  if b=true then ua (gL (gC 0) (gL (PM rM) rM)) σ2 H3 λy H4=>H4 D=some (.lst ys)/\ys.length < sizeLine/\W (i+1) m' (ys++[y]) σ2 (upd H4 D (.lst (ys++[y]))) else W (i+1) m' ys σ2 H3):=by
 refine cH (xs:=zs.map V.str) (λi ys σ2 H2=>∃(ts:List Addr)(ps:List (Str×Addr)),ys=ts.map V.ref/\ts.length=i/\ps.map (·.1)=zs.take i/\Paired (λt (p:Str×Addr)=>aR K H2 t [.str p.1,.ref p.2]) ts ps /\
   (∀p∈ps,H2 p.2=some (.lst [])/\H p.2=none/\p.2≠D)/\(ps.map (·.2)).Nodup/\(∃y0,σ2=[y0])/\aB H H2/\H2 D=some (.lst ys))
  ⟨[],[],rfl,rfl,rfl,.nil,by simp,by simp,⟨none,rfl⟩,af hD _,ae⟩ (λi ys σ2 H2 _ h=>?_) (λi x ys σ2 H2 ex h=>?_) (λys σ2 H2 h=>?_)
 .obtain⟨_,_,_,_,_,_,_,_,_,sm,_⟩:=h;exact sm.seq hp
 .obtain⟨ts,ps,rfl,ht,hm,qy,hl,hn,⟨y0,rfl⟩,sm,hd⟩:=h;rw [bo] at ex;obtain⟨z,ez,rfl⟩:=cf.mp ex;have li:=(bj.mp ez).1;refine goN (yB ?_);refine⟨_,rfl,rJ,λl ui=>⟨oJ,λt jy=>?_⟩⟩;have M7:l≠D:=(az hd ui).symm;have nt:t≠l:=λe=>by rw [e,ae] at jy;cases jy
  have Q3:H2 t=none:=by rw [ai nt] at jy;exact jy
  have ntD:t≠D:=(az hd Q3).symm;have vZ:aB H2 (upd (upd H2 l (.lst [])) t (.tup [.str z,.ref l])):=(af ui _).trans (af jy _);have je:=vZ _ _ hd;have el:upd (upd H2 l (.lst [])) t (.tup [.str z,.ref l]) l=some (.lst []):=by rw [ai nt.symm,ae]
  have et:aR K (upd (upd H2 l (.lst [])) t (.tup [.str z,.ref l])) t [.str z,.ref l]:=aR.of ae;generalize upd (upd H2 l (.lst [])) t (.tup [.str z,.ref l])=H4 at vZ je el et;refine⟨je,bE (by rw [av];omega),ts++[t],ps++[(z,l)],by rw [bF];rfl,by rw [bp,ht];rfl,by rw [bF,hm,cP,ez];rfl,?_,?_,?_,⟨_,rfl⟩,?_,ae⟩
  .exact gW (Paired.eI qy λt' h' z=>aW je (vZ.tup z)) (aW je et)
  .intro p' pK;rcases cg.mp pK with h | h
   .obtain⟨a1,a2,a3⟩:=hl p' h;exact⟨by rw [ai a3];exact vZ _ _ a1,a2,a3⟩
   rw [bB.mp h];exact⟨by rw [ai M7];exact el,sm.free ui,M7⟩
  .rw [bF];refine j8.mpr ⟨hn,by simp,λa ha b hb e=>?_⟩;rw [o9,bB] at hb;obtain⟨p',pK,rfl⟩:=cx.mp ha;have:=(hl p' pK).1;rw [e,hb] at this;rw [show H2 l=none from ui] at this;cases this
  intro b o hb;rw [ai (λz=>by rw [z,hD] at hb;cases hb)];exact vZ _ _ (sm b o hb)
 obtain⟨ts,ps,rfl,ht,hm,qy,hl,hn,_,sm,hd⟩:=h;rw [av,cO] at hm;exact q ts ps H2 sm hd hm qy hl hn
def yQ {K:a8}{H:Hp}{p D d:Addr}{zs:List Str}{kvs:List (aL×V)}{σ:St}{js:List (Nat×Str)}{Qp:Hp->Prop}(hσ:dN ["place","part"] js σ=[none,none,aM d])(hp:aR K H p (zs.map V.str))(hz:zs.length<=1000)
  (hd:H d=some (.dK kvs))(hD:H D=none)(q:∀H2,aB H H2->H2 D=some (.lst ((DX (λz=>(bf kvs (Sum.inr z)).isSome) zs zs.length).map V.int))->Qp H2) :
  ∃W:Nat->Nat->List V->St->Hp->Prop,(∃m,W 0 m [] (dN ["place","part"] js σ) (upd H D (.lst []))) /\
 ∀i m ys σ' H,W i m ys σ' H->((tU K p).stop i H/\Qp H)\/((tU K p).go i H/\∃m',m' < m/\∀x H',(tU K p).mD i H x H'->AW K 2 (jt (dJ 0) (jt (dJ 1) DR)) x σ' H' λσ2 H2=>tB (Bu (gC 1) (gC 2)) σ2 H2 λb H3 =>
  if b=true then gC 0 σ2 H3 λy H4=>H4 D=some (.lst ys)/\ys.length < sizeLine/\W (i+1) m' (ys++[y]) σ2 (upd H4 D (.lst (ys++[y]))) else W (i+1) m' ys σ2 H3):=by
 refine yS (xs:=zs.map V.str) (λi ys σ2 H2=>ys=(DX (λz=>(bf kvs (Sum.inr z)).isSome) zs i).map V.int/\(∃y0 y1,σ2=[y0,y1,aM d])/\aB H H2/\H2 D=some (.lst ys))
  ⟨rfl,⟨none,none,hσ⟩,af hD _,ae⟩ (λi ys σ2 H2 _ h=>h.2.2.1.tup hp) (λi x ys σ2 H2 t ex h ht=>?_) (λys σ2 H2 h=>?_)
 .obtain⟨rfl,⟨y0,y1,rfl⟩,sm,hd2⟩:=h;rw [bo] at ex;obtain⟨z,ez,rfl⟩:=cf.mp ex;have li:=(bj.mp ez).1;have vZ:=sm.trans (af ht (.tup [.int (i:Int),.str z]));have je:upd H2 t (.tup [.int (i:Int),.str z]) D=some (.lst ((DX (λz=>(bf kvs (Sum.inr z)).isSome) zs i).map V.int)):=by rw [ai (az hd2 ht)];exact hd2
  have hv:aR K (upd H2 t (.tup [.int (i:Int),.str z])) t [.int (i:Int),.str z]:=aR.of ae;generalize upd H2 t (.tup [.int (i:Int),.str z])=H3 at vZ je hv;have fl:=Ki (λz=>(bf kvs (Sum.inr z)).isSome) zs i;refine⟨t,_,rfl,hv,rfl,_,_,rfl,_,_,rfl,rfl,?_⟩;refine⟨_,rfl,_,rfl,d,_,rfl,bW.k (k:=Sum.inr z) (vZ _ _ hd),_,rfl,?_⟩;refine cD (λc=>?_) (λc=>?_)
  .refine⟨_,rfl,je,bE (by rw [av];omega),?_,⟨_,_,rfl⟩,?_,ae⟩
   .rw [yD _ zs i ez,aw (λe=>by rw [e] at c;exact absurd c (by decide)),bF];rfl
   intro b o hb;rw [ai (λz=>by rw [z,hD] at hb;cases hb)];exact vZ b o hb
  refine⟨?_,⟨_,_,rfl⟩,vZ,je⟩;rw [yD _ zs i ez,ax,ir];cases hq:(bf kvs (Sum.inr z)).isSome with
  | true=>rfl
  | false=>exact absurd (by rw [hq];rfl) c
 obtain⟨rfl,_,sm,hd2⟩:=h;rw [av] at hd2;exact q H2 sm hd2
open PySem PySem.Spec PyProof.Rows
def jK {X:Cx}{elt iter tg:Expr}{iy:Nat}{y:Str}{py P1:Pos}{ifs:List Expr}{scope:Scope}{pos:Pos}{wi:TI}{g:TG}{tif:TT}{te:TE}(ts:List Str)(js:List (Nat×Str))(hN:X.N.Nodup)(hiy:X.N[iy]?=some y)(hy:X.env.scope.names.lookup y=some .local)(hc:X.calm=true)(hi:PI X tg iter wi)
  (cp:KO X scope js)(jq:∀y∈scope.names,y.2≠.cell)(jo:scope.kind=.function)
  (AN:∀y∈scope.names,y.2=.local->scope.names.lookup y.1=some .local)
  (hg:∀cl C s1 H1 fp,PG (tG X scope cl C s1 H1 (ts++js.map (·.2)) fp) tg g)
  (WO:∀cl C s1 H1 fp,EE (tG X scope cl C s1 H1 (ts++js.map (·.2)) fp) ifs tif)(he:∀cl C s1 H1 fp,PE (tG X scope cl C s1 H1 (ts++js.map (·.2)) fp) elt te)
  (hsw:swapsWith (.ListComp elt [⟨tg,iter,ifs,0⟩] scope pos) (some (.Name y py)) P1.line X.env=pure true:=by rfl)(hs:∀x,foldedSetIterable iter X.env x=pure x:=by intro _;rfl) :
  PS X (.Assign [.Name y py] (.ListComp elt [⟨tg,iter,ifs,0⟩] scope pos) P1) (Mn (Ff wi ts js g tif te) (dJ iy)):=by
 intro ag s σ H DD I h;rw [exec_Assign_Name_used _ _ _ _ hsw];refine aq (wpAny_standAt (aq ?_));show wpAny _ _ (do let _ <-comprehension (.ListComp elt [⟨tg,iter,ifs,0⟩] scope pos) scope X.env _ (newList []) false (eval iter X.env) (some (assign (.Name y py) X.env))) _ _ s;obtain⟨cl,mZ⟩:=xf (env:=X.env) (scope:=scope) λy hy=>I.ok.has y (.inl (cp.all y hy));refine aq (dB (wpAny_comprehension_free (use:=some (assign (.Name y py) X.env)) (Q:=λ_ s'=>SP X ag DD .next s') rfl hs mZ.eq jo AN (cW (hi ag s σ H _ I h) λv s1 h1=>cW h1 λTn s2 h2=>?_)) (λ_ s' hq=>aH (aH hq)) λ_ _ e=>e);obtain⟨it,fp,tn,J,H2,e,I2,T,EI,f2,h2⟩:=h2;subst e;obtain⟨W,⟨m0,w0⟩,turn⟩:=h2 s2.heap.objs.size I2.fresh;have Hr:∀b∈fp,b < s2.heap.objs.size:=λb hb=>by obtain⟨o,e,_⟩:=T.obj _ _ EI b hb;exact bu e
 refine gH (wpAny_newFunctionEnv jq (by intro y hy;simp at hy) (λh₁ AM wW=>?_) jo);dsimp only at AM wW ⊢;generalize NQ:s2.heap.push { cls:=.type "list",dict:=none,data:=.seq ([]:List Value).toArray }=G2 at AM wW ⊢;have Kf:G2.objs.size=s2.heap.objs.size+1:=by rw [<-NQ,j5]
 have Xa:s2.heap.objs.size≠G2.objs.size:=by rw [Kf];exact bD (j7 _)
 have old:∀b o,s2.heap.get? b=some o->h₁.get? b=some o:=λb o e =>
  wW.extBut b o (by rw [Kf];exact bD (pX (bu e))) (bG _ (NQ ▸ bG _ e))
 have uj:h₁.get? s2.heap.objs.size=some { cls:=.type "list",data:=.seq ([]:List Value).toArray 0 }:=wW.extBut _ _ Xa (bG _ (NQ ▸ cy _ rfl));generalize oo:tG X scope cl G2.objs.size s2 H2 (ts++js.map (·.2)) fp=X2;have I4:Inv X2 [] (dN ts js σ) (upd H2 s2.heap.objs.size (.lst [])) { s2 with heap:=h₁,toks:=s2.toks+([]:List (Str×Value)).length }:=by
  rw [<-oo];exact uQ I2 f2 Hr jo jq cp mZ (by rw [Kf];exact j7 _) rfl rfl old AM uj
 have x1:X2.prog=X.prog:=by rw [<-oo];rfl
 have x2:X2.w=X.w:=by rw [<-oo];rfl
 have x3:X2.K=X.K:=by rw [<-oo];rfl
 have x4:X2.calm=true:=by rw [<-oo];exact hc
 have x5:X2.A=X.A:=by rw [<-oo];rfl
 have x6:X2.env=compEnvC scope cl G2.objs.size X.env:=by rw [<-oo];rfl
 have x7:X2.xe=λ_ _=>False:=by rw [<-oo];rfl
 have WQ:PG X2 tg g:=by rw [<-oo];exact hg _ _ _ _ _
 have NC:EE X2 ifs tif:=by rw [<-oo];exact WO _ _ _ _ _
 have AQ:PE X2 elt te:=by rw [<-oo];exact he _ _ _ _ _
 have Mp:tn 0 h₁:=T.keep _ _ _ EI λb _ o e=>old b o e;have rO:∀{H':Hp}{kc:List (Addr×Obj)},(∀b∈fp,H' b=none)->(∀p∈kc,p.1∉fp)->∀b∈fp,xp X2 kc H' b:=λ{H' kc} hn hp b hb=>by
  have o4:=I4.ok;subst oo;exact⟨hn b hb,(o4.O2 b hb).1,o4.DZ b hb,.inl hb,(o4.O2 b hb).2,λp pK=>by
   have oK:p∈([]:List (Addr×Obj))++kc:=pK;rw [kQ] at oK;intro z;exact hp p oK (by rw [z];exact hb)⟩
 have fin:∀{s':Shared}{σ':St}{H':Hp},Inv X2 [] σ' H' s'->DD.nx (σ.set iy (some (.ref s2.heap.objs.size))) H' ->
   compPost (model X.prog X.w) X.A X.xe (some (assign (.Name y py) X.env)) (λ_ s'=>SP X ag DD .next s') (.ref s2.heap.objs.size) G2.objs.size (.ok .next) s':=λ{s' σ' H'} J' q=>by
  subst oo;obtain⟨m',Ka,_⟩:=J'.loc;have I5:Inv X ag σ H' s':=I2.LO (s':=s') J'.os J'.base J'.bY J'.bare λb hb=>by
   obtain⟨_,f1,_,f3,f4,f5⟩:=f2 b hb;exact⟨f3,f1,f4,f5⟩
  obtain⟨f0,f1,_,f3,f4,f5⟩:=I2.wZ (H':=H') (b:=G2.objs.size) (by rw [Kf];exact i6 _) J'.free;show wpAny _ _ (assign (.Name y py) X.env (.ref s2.heap.objs.size)) _ _ s';refine wpAny_assign_Name (uA I5 hN hiy (.inl hy) (v:=.ref s2.heap.objs.size) rfl (λMI I6 ⟨a,sb,ha⟩=>?_) (.inr hy));have nCa:G2.objs.size≠a:=by
   rcases ha with ha | ha
   .rw [ha];exact f1
   exact(f4 _ _ ha).symm
  refine⟨m',Ka.sameBut sb nCa,λh' OP=>?_⟩;exact⟨_,H',I6.turned (t':=MI.toks) (λb o hb e=>(OP.2 b hb).trans e) f0 f1 f3 f4 f5,q⟩
 have loop:∀s₃:Shared,s₃={ s2 with heap:=h₁,toks:=s2.toks+([]:List (Str×Value)).length } ->
   codeAny (model X.prog X.w) X.A (.compLoop (.ListComp elt [⟨tg,iter,ifs,0⟩] scope pos) 0 (.ref it) (.ref s2.heap.objs.size) (compEnvC scope cl G2.objs.size X.env))
    (compPost (model X.prog X.w) X.A X.xe (some (assign (.Name y py) X.env)) (λ_ s'=>SP X ag DD .next s') (.ref s2.heap.objs.size) G2.objs.size) s₃:=by
  rintro s₃ rfl;subst oo;refine qm (λn s'=>∃i ys σ' H',Inv (tG X scope cl G2.objs.size s2 H2 (ts++js.map (·.2)) fp) [] σ' H' s'/\tn i s'.heap/\(∀b∈fp,H' b=none)/\W i n ys σ' H') ?_ m0
   ⟨0,[],_,_,I4,Mp,λb hb=>by rw [ai (bD (Hr b hb))];exact(f2 b hb).1,w0⟩
  rintro n s' ⟨i,ys,σ0,H',J',uC,RK,w'⟩;rcases turn i n ys σ0 H' w' with ⟨stop,q⟩ | ⟨go,m',hm,step⟩
  .refine dB (T.done (tG X scope cl G2.objs.size s2 H2 (ts++js.map (·.2)) fp) rfl rfl rfl hc i [] s' _ H' (λ_ _=>False) J' (rO RK (by simp)) uC stop) (λr s4 ⟨hr,J4⟩=>?_) λ_ _ z=>z;subst hr;exact fin J4 q
  refine dB (T.item (tG X scope cl G2.objs.size s2 H2 (ts++js.map (·.2)) fp) rfl rfl rfl hc i [] s' _ H' (λ_ _=>False) J' (rO RK (by simp)) uC go) (λr s4 ⟨u,hr,h4⟩=>?_) λ_ _ z=>z;subst hr;refine dB h4 (λ_ s5 ⟨xv,H5,J5,r5,y5,CO,RJ⟩=>?_) λ_ _ z=>z;have Yt:=J5.pinned (rO RJ (by simp)) (T.obj _ _ CO);have back:∀{s7:Shared}{σ7:St}{H7:Hp},Inv (tG X scope cl G2.objs.size s2 H2 (ts++js.map (·.2)) fp) ([]++pE fp s5.heap) σ7 H7 s7->Inv (tG X scope cl G2.objs.size s2 H2 (ts++js.map (·.2)) fp) [] σ7 H7 s7/\tn (i+1) s7.heap/\∀b∈fp,H7 b=none:=λ{s7 σ7 H7} J7=>by
   refine⟨J7.kT,T.keep _ _ _ CO λb hb o e=>(J7.pin (b,o) (fS _ (fS _ (g7 hb e)))).1,λb hb=>?_⟩;obtain⟨o,e,d⟩:=T.obj _ _ CO b hb;exact(J7.pin (b,o) (fS _ (fS _ (g7 hb e)))).2.1
  show wpAny _ _ (assign tg (tG X scope cl G2.objs.size s2 H2 (ts++js.map (·.2)) fp).env u) _ _ s5;refine dB (WQ _ s5 _ H5 xv u _ Yt r5 (step xv H5 y5)) (λ_ s6 ⟨σ6,H6,J6,q6⟩=>?_) λ_ _ z=>z;refine dB (NC _ s6 _ H6 _ J6 q6) (λb s7 ⟨H7,J7,q7⟩=>?_) λ_ _ z=>z;cases b with
  | false =>
   rw [aw cZ] at q7 ⊢;obtain⟨J8,U3,Xk⟩:=back J7;exact⟨m',hm,i+1,ys,σ6,H7,J8,U3,Xk,q7⟩
  | true =>
   rw [ax rfl] at q7 ⊢;refine dB (AQ _ s7 _ H7 _ J7 q7) (λyv s8 ⟨y,H8,J8,r8,Xb,Wd,w8⟩=>?_) λ_ _ z=>z;refine dB (bL (X:=tG X scope cl G2.objs.size s2 H2 (ts++js.map (·.2)) fp) _ s8 _ H8 (.ref s2.heap.objs.size) [y] (.ref s2.heap.objs.size) [yv] (λv H'=>W (i+1) m' (ys++[y]) σ6 H') J8 rfl (.cons r8 .nil) ⟨s2.heap.objs.size,ys,y,rfl,rfl,Xb,Wd,w8⟩)
    (λ_ s9 ⟨_,H9,J9,_,w9⟩=>?_) λ_ _ z=>z
   obtain⟨Yu,Mq,NY⟩:=back J9;exact⟨m',hm,i+1,ys++[y],σ6,H9,Yu,Mq,NY,w9⟩
 exact codeAny_compStart_list (loop _ rfl) (T.self _ _ _ _ _ Mp (loop _ rfl))
end L2
namespace gR
open PySem L2 M11
section
def wJ {l:List Str}(h:l.Nodup):(l.map (Sum.inr:Str->aL)).Nodup:=List.Pairwise.map _ (λa b hab e=>hab (mj e)) h
structure EZ (K:a8)(ps:List (Str×Addr))(st:Str->List (Nat×Nat))(H:Hp)(d:Addr):Prop where
 hd:Rd H d (.dK (ps.map jx))
 n1:(ps.map (·.1)).Nodup
 n2:(ps.map (·.2)).Nodup
 lst:∀p∈ps,∃ts,H p.2=some (.lst (ts.map V.ref))/\Paired (λt (e:Nat×Nat)=>aR K H t [.int (e.1:Int),.int (e.2:Int)]) ts (st p.1)
def Rd.same {H H':Hp}{a:Addr}{u:HO}(h:Rd H a u)(s:aB H H'):Rd H' a u:=h.elim (λz=>.inl (s _ _ z)) λ⟨o,z⟩=>.inr ⟨o,s _ _ z⟩
theorem EZ.same {ps:List (Str×Addr)}{st:Str->List (Nat×Nat)}{H H':Hp}{d:Addr}(h:EZ K ps st H d)(s:aB H H'):EZ K ps st H' d :=
 ⟨Rd.same h.hd s,h.n1,h.n2,λp hp=>let ⟨ts,a,b⟩:=h.lst p hp;⟨ts,s _ _ a,Paired.eI b λ_ _ z=>s.tup z⟩⟩
def vj (st:Str->List (Nat×Nat))(n:Str)(e:Nat×Nat):Str->List (Nat×Nat):=λz=>if z=n then st z++[e] else st z
def EZ.more {ps:List (Str×Addr)}{st:Str->List (Nat×Nat)}{H:Hp}{d:Addr}(h:EZ K ps st H d){p:Str×Addr}(hp:p∈ps){ts:List Addr}{t:Addr}{e:Nat×Nat}(a:H p.2=some (.lst (ts.map V.ref)))
  (b:Paired (λt (e:Nat×Nat)=>aR K H t [.int (e.1:Int),.int (e.2:Int)]) ts (st p.1))(c:aR K H t [.int (e.1:Int),.int (e.2:Int)]) :
  EZ K ps (vj st p.1 e) (upd H p.2 (.lst (ts.map V.ref++[.ref t]))) d:=by
 have nd:d≠p.2:=λz=>by
  rcases h.hd with q | ⟨o,q⟩
  .rw [z,a] at q;cases q
  rw [z,a] at q;cases q
 refine⟨?_,h.n1,h.n2,λp' pK=>?_⟩
 .rcases h.hd with q | ⟨o,q⟩
  .exact .inl (by rw [ai nd];exact q)
  exact .inr ⟨o,by rw [ai nd];exact q⟩
 by_cases z:p'=p
 .rw [z];refine⟨ts++[t],by rw [ae,bF];rfl,?_⟩;have e1:vj st p.1 e p.1=st p.1++[e]:=ax rfl;rw [e1];exact gW (Paired.eI b λ_ _ z=>aW a z) (aW a c)
 have n1:p'.1≠p.1:=λq=>z (by
  have w1:=gZ ps h.n1 p' pK;have w2:=gZ ps h.n1 p hp;rw [q,w2] at w1;injection w1 with w3;injection w3 with w4;exact Prod.ext q w4.symm)
 have n2:p'.2≠p.2:=λq=>by
  obtain⟨i,hi,ei⟩:=qR.mp pK;obtain⟨j,hj,ej⟩:=qR.mp hp;have Kc:i=j:=by
   refine(vp (xs:=ps.map (·.2)) (h₀:=by simpa using hi) (h₁:=by simpa using hj) h.n2).mp ?_;rw [oY,oY,ei,ej];exact q
  subst Kc;exact z (ei.symm.trans ej)
 obtain⟨kb,a',b'⟩:=h.lst p' pK;refine⟨kb,by rw [ai n2];exact a',?_⟩;have e1:vj st p.1 e p'.1=st p'.1:=aw n1;rw [e1];exact Paired.eI b' λ_ _ z=>aW a z
def BI (K:a8):Sp:=λvs H Q _=>∃(R:Addr)(rs:List Addr)(aa:List au),vs=[.ref R]/\aG K H R (rs.map V.ref)/\bI K H rs aa/\aa.length<=1000/\(∀ru∈aa,ru.2.length<=8) /\
 ∀(d:Addr)(ps:List (Str×Addr))(st:Str->List (Nat×Nat))(bx:List (Str×Nat))(H':Hp),H d=none->aB H H'->H' d=some (.dK (ps.map jx))->EZ K ps st H' d->ps.map (·.1)=hd aa->(∀p∈ps,H p.2=none)->xq aa bx->zg aa aa.length bx ->
  (∀n k j,n∈hd aa->((k,j)∈st n↔Pj aa (hd aa) (λz=>decide (z∈bx.map (·.1))) n k j))->Q (.ref d) H'
def iX:aI ["rules","empty","steps","number","rule","place","part","filled"] ["rules"] (ay zW):=iS rfl rfl rfl rfl (by decide +kernel)
def Gn (F:ix K "steps_with_like_rows" "steps_with_like_rows" zW f fd)(T:Txt mg)(GE:aE P w K mg base 1 "found_empties" ["rules"] (pq K))(GH:aE P w K mg base 1 "heads_of" ["rules"] (jF K)):bQ P w K mg base fX 2 f fd ["rules"] (BI K):=by
 refine F.ok iX (λvs H Q E h=>?_) (λeJ A outer s H vs Q E hr h=>?_)
 .obtain⟨R,rs,aa,rfl,_⟩:=h;rfl
 obtain⟨R,rs,aa,rfl,hR,cS,br,h8,q⟩:=h;have hu:=fV hr;refine⟨_,aj (aC (i:=1) iX.nd rfl (Or.inr rfl) (aV (dO rfl) rfl T.A_ fM (ab (bc GE hr rfl (ab (pv 0) ah)) ah)))
  (aj (aC (i:=2) iX.nd rfl (bA rfl) (aV (dO rfl) rfl T.A_ fM (ab
   (ba ["name"] [] rfl (aX (bc GH hr rfl (ab (pv 0) ah))) (a9 rfl rfl) (by decide +kernel) rfl (by decide +kernel)
    (λ_ _ _ _ _=>ao (i:=0) (show (["name"]:List Str).Nodup by decide +kernel) rfl (bA rfl)) (λ_ _ _ _ _=>bO)
    (λ_ _ _ _ _=>bR (ab (pv 0) (ab (bz ah) ah)))) ah)))
  (aj (bJ b8 rfl (nZ rfl T.Kk (ab (pv 0) ah)) (gO rfl (aA (ao (i:=3) iX.nd rfl (bA rfl)) (aA (ao (i:=4) iX.nd rfl (bA rfl)) bU)))
   (aj (jK (iy:=7) ["place","part"] [(1,"empty")] iX.nd rfl rfl rfl (nY rfl T.Kk (ab (aP bq (pv 4) ar (λ_ _=>rfl)) ah)) (a9 rfl rfl) (by decide +kernel) rfl (by decide +kernel)
    (λ_ _ _ _ _=>fc (n:=2) K rfl (aA (ao (i:=0) (show (["place","part","empty"]:List Str).Nodup by decide +kernel) rfl (bA rfl)) (aA (ao (i:=1) (show (["place","part","empty"]:List Str).Nodup by decide +kernel) rfl (bA rfl)) bU)))
    (λ_ _ _ _ _=>hJ (dG (dW hu (pv 1) (pv 2)))) (λ_ _ _ _ _=>pv 0))
   (ak (bJ b8 rfl (nY rfl T.Kk (ab (aP bq (pv 4) ar (λ_ _=>rfl)) ah)) (gO rfl (aA (ao (i:=5) iX.nd rfl (bA rfl)) (aA (ao (i:=6) iX.nd rfl (bA rfl)) bU)))
    (ak (bT (PW.pt (ja (dG (jb hu (pv 6) (pv 2))) (iz (bw (Dc hu) (pv 7) (bR (ab (bz ah) (ab (bz (ab (pv 5) ah)) ah))) rfl))))
     (ak (cA (gQ fZ gJ gK bL (eG hu (pv 2) (aP bq (pv 4) ar (λ_ _=>rfl)) (λ_ _=>rfl)) (ab (bR (ab (pv 3) (ab (pv 5) ah))) ah)))) aS)))))
   )
  (ak (aQ (pv 2))))),?_⟩
 nofun
 have ll:=a_ cS;refine⟨_,rfl,R,rs,aa,rfl,hR,cS,br,h8,λD1 CM bx H1 f1 s1 e1 w1 emp Ed=>?_⟩;have V3:Paired (λt (kv:aL×V)=>aR K H1 t [kV kv.1,kv.2]) CM (bx.map λp=>((Sum.inr p.1:aL),V.int (p.2:Int))):=cq w1 λ_ _ z=>z;refine⟨D1,CM,_,rfl,e1,V3,λe he=>?_⟩;have ekE:c_ (bx.map λp=>((Sum.inr p.1:aL),V.int (p.2:Int))) []=bx.map λp=>((Sum.inr p.1:aL),V.int (p.2:Int)):=oz _ [] (by
  rw [kQ,iU];have:=wJ emp.nd;rw [iU] at this;exact this)
 rw [ekE];have Du:∀z,(bf (bx.map λp=>((Sum.inr p.1:aL),V.int (p.2:Int))) (Sum.inr z)).isSome=decide (z∈bx.map (·.1)):=λz=>by
  rw [m_,dP,decide_eq_true_iff,iU];have:(bx.map λp:Str×Nat=>(Sum.inr p.1:aL))=(bx.map (·.1)).map Sum.inr:=by rw [iU];rfl
  show _∈(bx.map λp:Str×Nat=>(Sum.inr p.1:aL))↔_;rw [this];exact cM
 generalize (bx.map λp=>((Sum.inr p.1:aL),V.int (p.2:Int)))=kE at Du ⊢;have s2:=s1.trans (af he (.dK kE));have e2:upd H1 e (.dK kE) e=some (.dK kE):=ae;generalize upd H1 e (.dK kE)=H2 at s2 e2;refine⟨_,rfl,R,rs,aa,rfl,s2.seq hR,cS.same s2,br,λD2 H3 f3 s3 e3=>?_⟩;have JX:=iD (aa.map (·.1)) [];simp only [iW,av] at JX;refine⟨D2,rfl,⟨_,aG.of e3⟩,λD3 yz=>tL (aG.of e3) (by omega) yz λts ps H4 s4 e4 m4 p4 l4 n4=>?_⟩;have n1:(ps.map (·.1)).Nodup:=by rw [m4];exact pQ _ kJ
 have DA:Paired (λt (kv:aL×V)=>aR K H4 t [kV kv.1,kv.2]) ts (ps.map jx):=cq p4 λ_ _ z=>z;refine⟨D3,ts,_,rfl,e4,DA,λd tZ=>?_⟩;have RT:c_ (ps.map jx) []=ps.map jx:=oz _ [] (by
  rw [kQ,n6];exact wJ n1)
 rw [RT];have s5:=((s2.trans s3).trans s4).trans (af tZ (.dK (ps.map jx)));have tY:=af tZ (.dK (ps.map jx));have e5:upd H4 d (.dK (ps.map jx)) d=some (.dK (ps.map jx)):=ae;have RX:=tY _ _ (s4 _ _ (s3 _ _ e2));have zx:H d=none:=((s2.trans s3).trans s4).free tZ;have S5:EZ K ps (λ_=>[]) (upd H4 d (.dK (ps.map jx))) d:=⟨.inl e5,n1,n4,λp hp=>⟨[],tY _ _ (l4 p hp).1,.nil⟩⟩;have OZ:∀p∈ps,H p.2=none:=λp hp=>(s2.trans s3).free (l4 p hp).2.1;generalize upd H4 d (.dK (ps.map jx))=H5 at s5 e5 RX S5;clear tY;have eb:(λz=>(bf kE (Sum.inr z)).isSome)=λz=>decide (z∈bx.map (·.1)):=funext Du;refine⟨_,rfl,R,_,rfl,s5.seq hR,?_⟩;refine lF (xs:=rs.map V.ref) (λi σ H6=>∃(st:Str->List (Nat×Nat))(y3 y4 y5 y6 y7:Option V),σ=[aM R,aM e,aM d,y3,y4,y5,y6,y7]/\aB H H6/\H6 e=some (.dK kE)/\H6 d=some (.dK (ps.map jx))/\EZ K ps st H6 d /\
  (∀n,(st n).length<=8 * i)/\∀n k j,n∈hd aa->((k,j)∈st n↔k < i/\Pj aa (hd aa) (λz=>decide (z∈bx.map (·.1))) n k j))
  ⟨λ_=>[],none,none,none,none,none,rfl,s5,RX,e5,S5,by simp,by simp⟩ ?_ ?_ ?_
 .rintro i σ H6 _ ⟨st,y3,y4,y5,y6,y7,rfl,s6,_⟩;exact s6.seq hR
 .rintro i x σ H6 t ex ⟨st,y3,y4,y5,y6,y7,rfl,s6,Oa,LF,S6,l6,c6⟩ ht
  ac_nf0
  rw [bo] at ex;obtain⟨r,er,rfl⟩:=cf.mp ex;obtain⟨ru,s_,p,v1,v2⟩:=cS.get er;have jT:=bZ s_;have OW:=h8 ru jT;have li:=(bj.mp s_).1;have uG:=af ht (.tup [.int (i:Int),.ref r]);have Lo:aR K (upd H6 t (.tup [.int (i:Int),.ref r])) t [.int (i:Int),.ref r]:=aR.of ae;have s7:=s6.trans uG;have N_:=uG _ _ Oa;have ed7:=uG _ _ LF;have S7:=S6.same uG;generalize upd H6 t (.tup [.int (i:Int),.ref r])=H7 at Lo s7 N_ ed7 S7;refine⟨t,_,rfl,Lo,rfl,_,_,rfl,_,_,rfl,rfl,?_⟩;refine⟨_,rfl,r,_,_,_,rfl,rfl,s7.tup v1,rfl,p,_,rfl,s7.tup v2,λD5 Lv=>yQ rfl (s7.tup v2) (by omega) N_ Lv λH8 OH e8=>?_⟩;rw [eb] at e8;have s8:=s7.trans OH;have ee8:=OH _ _ N_;have XA:=OH _ _ ed7;have S8:=S7.same OH;have nD5:∀p∈ps,p.2≠D5:=λp hp z=>by
   obtain⟨kb,a,_⟩:=S7.lst p hp;rw [z,Lv] at a;cases a
  obtain⟨pn,yx,zy⟩:∃pn∈ps,pn.1=ru.1:=by
   have:ru.1∈ps.map (·.1):=by rw [m4];exact(hU _ _ _).mpr (.inr (j9 jT))
   obtain⟨pn,a,b⟩:=cx.mp this;exact⟨pn,a,b⟩
  refine⟨_,rfl,r,_,_,_,rfl,rfl,s8.tup v1,rfl,p,_,rfl,s8.tup v2,?_⟩;refine pM (xs:=ru.2.map V.str) (λj σ H9=>∃(st:Str->List (Nat×Nat))(y5 y6:Option V),σ=[aM R,aM e,aM d,some (.int (i:Int)),aM r,y5,y6,aM D5]/\aB H H9/\H9 e=some (.dK kE)/\H9 d=some (.dK (ps.map jx))/\EZ K ps st H9 d /\
   H9 D5=some (.lst ((DX (λz=>decide (z∈bx.map (·.1))) ru.2 ru.2.length).map V.int))/\(∀n,(st n).length<=8 * i+j)/\∀n k j',n∈hd aa->((k,j')∈st n↔(k < i\/(k=i/\j' < j))/\Pj aa (hd aa) (λz=>decide (z∈bx.map (·.1))) n k j'))
   ⟨st,_,_,rfl,s8,ee8,XA,S8,e8,λn=>l6 n,λn k j' hn=>by rw [c6 n k j' hn];simp⟩ ?_ ?_ ?_
  .rintro j σ H9 _ ⟨st,y5,y6,rfl,s9,_⟩;exact s9.tup v2
  .rintro j x σ H9 t2 pN ⟨st,y5,y6,rfl,s9,Xy,Ob,S9,e9,l9,c9⟩ jy
   ac_nf0
   rw [bo] at pN;obtain⟨z,ez,rfl⟩:=cf.mp pN;have lj:=(bj.mp ez).1;have xX:=af jy (.tup [.int (j:Int),.str z]);have Hh:aR K (upd H9 t2 (.tup [.int (j:Int),.str z])) t2 [.int (j:Int),.str z]:=aR.of ae;have ue:=s9.trans xX;have w_:=xX _ _ Xy;have qB:=xX _ _ Ob;have EX:=xX _ _ e9;have LW:=S9.same xX;generalize upd H9 t2 (.tup [.int (j:Int),.str z])=zz at Hh ue w_ qB EX LW;have mem:(bf (ps.map jx) (Sum.inr z)).isSome=true↔z∈hd aa:=by rw [dP,n6,m4];exact cM
   have kW:¬(z∈hd aa/\JW (λz=>decide (z∈bx.map (·.1))) ru.2 j=true)->∀n k j',n∈hd aa->((k,j')∈st n↔(k < i\/(k=i/\j' < j+1))/\Pj aa (hd aa) (λz=>decide (z∈bx.map (·.1))) n k j'):=λhn n k j' WH=>by
    rw [c9 n k j' WH];constructor
    .rintro⟨h1,h3⟩;exact⟨by omega,h3⟩
    rintro⟨h1,h3⟩;refine⟨?_,h3⟩;by_cases c:k=i/\j'=j
    .obtain⟨CY,z',a1,a2,a3,a4,a5⟩:=h3;rw [c.1,s_] at a1;cases a1;rw [c.2] at a5;rw [c.2,ez] at a3;cases a3;exact absurd ⟨a4,a5⟩ hn
    omega
   have Zv:∀n,(st n).length<=8 * i+(j+1):=λn=>by have:=l9 n;omega
   refine⟨t2,_,rfl,Hh,rfl,_,_,rfl,_,_,rfl,rfl,?_⟩;refine⟨_,rfl,_,rfl,d,_,rfl,bW.k (k:=Sum.inr z) qB,_,rfl,?_⟩;refine cD (λc=>?_) (λc=>?_)
   .have hz:=mem.mp c;refine⟨_,rfl,rJ,λl1 Rj=>?_⟩;have FJ:=af Rj (.lst []);have IY:upd zz l1 (.lst []) l1=some (.lst []):=ae;have nl1:l1≠D5:=(az EX Rj).symm;generalize upd zz l1 (.lst [])=zd at FJ IY;refine⟨_,rfl,xB,λl2 ui=>?_⟩;have K3:=af ui (.lst [.int (j:Int)]);have LJ:upd zd l2 (.lst [.int (j:Int)]) l2=some (.lst [.int (j:Int)]):=ae;have VD:l2≠D5:=(az (FJ _ _ EX) ui).symm;generalize upd zd l2 (.lst [.int (j:Int)])=vk at K3 LJ;refine⟨oJ,λt3 Q3=>?_⟩;have MH:=af Q3 (.tup [.ref l1,.ref l2]);have e13:aR K (upd vk t3 (.tup [.ref l1,.ref l2])) t3 [.ref l1,.ref l2]:=aR.of ae;generalize upd vk t3 (.tup [.ref l1,.ref l2])=t_ at MH e13;have qw:=(FJ.trans K3).trans MH;refine⟨t3,D5,l1,l2,_,[],[(j:Int)],rfl,rfl,e13,aG.of (qw _ _ EX),aG.of (MH _ _ (K3 _ _ IY)),aG.of (MH _ _ LJ),nl1,VD,_,rfl,?_⟩;have Ip:=LW.same qw;have ME:=ue.trans qw;refine cD (λc2=>?_) (λc2=>?_)
    .obtain⟨YI,an,bn⟩:=Ip.lst pn yx;have vn:=gZ ps n1 pn yx;rw [zy] at vn;have hg:bW t_ d (.str ru.1) (some (.ref pn.2)):=by
      have:=bW.k (k:=Sum.inr ru.1) (qw _ _ qB);rw [vn] at this;exact this
     have ltn:=a_ bn;have l9n:=l9 pn.1;refine⟨_,rfl,_,rfl,r,_,_,_,rfl,rfl,ME.tup v1,rfl,d,_,rfl,hg,.inl ⟨rfl,_,aG.of an⟩,_,rfl,_,rfl,oJ,λt4 DE=>?_⟩;have Aa:=af DE (.tup [.int (i:Int),.int (j:Int)]);have e14:aR K (upd t_ t4 (.tup [.int (i:Int),.int (j:Int)])) t4 [.int (i:Int),.int (j:Int)]:=aR.of ae;generalize upd t_ t4 (.tup [.int (i:Int),.int (j:Int)])=Ut at Aa e14;have Sn:=Ip.same Aa;have Kz:=Aa _ _ an;have X5:=Paired.eI bn λt' (e':Nat×Nat)(z:aR K t_ t' [.int (e'.1:Int),.int (e'.2:Int)])=>Aa.tup z;refine⟨pn.2,_,_,rfl,rfl,Kz,bE (by rw [av];omega),?_⟩;have Yp:=Sn.more (e:=(i,j)) yx Kz X5 e14;have ne1:e≠pn.2:=λz=>by have:=Aa _ _ (qw _ _ w_);rw [z,Kz] at this;cases this
     have ne2:d≠pn.2:=λz=>by have:=Aa _ _ (qw _ _ qB);rw [z,Kz] at this;cases this
     refine⟨vj st pn.1 (i,j),_,_,rfl,λb o hb=>?_,by rw [ai ne1];exact Aa _ _ (qw _ _ w_),by rw [ai ne2];exact Aa _ _ (qw _ _ qB),Yp,by rw [ai (nD5 pn yx).symm];exact Aa _ _ (qw _ _ EX),λn=>?_,λn k j' WH=>?_⟩
     .rw [ai (λz=>by rw [z,OZ pn yx] at hb;cases hb)];exact Aa _ _ (ME b o hb)
     .have:=l9 n;unfold vj
      split
      .rw [bp];simp;omega
      omega
     have hit:Pj aa (hd aa) (λz=>decide (z∈bx.map (·.1))) ru.1 i j:=⟨ru,z,s_,rfl,ez,hz,c2⟩;have LQ:=c9 n k j' WH;unfold vj;by_cases cn:n=pn.1
     .rw [ax cn,cg,bB,LQ];constructor
      .rintro(⟨h1,h3⟩ | h1)
       .exact⟨by omega,h3⟩
       cases h1;exact⟨by omega,by rw [cn,zy];exact hit⟩
      rintro⟨h1,h3⟩;by_cases cc:k=i/\j'=j
      .exact .inr (by rw [cc.1,cc.2])
      exact .inl ⟨by omega,h3⟩
     rw [aw cn,LQ];constructor
     .rintro⟨h1,h3⟩;exact⟨by omega,h3⟩
     rintro⟨h1,h3⟩;refine⟨?_,h3⟩;by_cases cc:k=i/\j'=j
     .obtain⟨CY,z',a1,a2,_⟩:=h3;rw [cc.1,s_] at a1;cases a1;exact absurd (a2.symm.trans zy.symm) cn
     omega
    exact⟨st,_,_,rfl,ME,qw _ _ w_,qw _ _ qB,Ip,qw _ _ EX,Zv,kW λ⟨_,h⟩=>c2 h⟩
   exact⟨st,_,_,rfl,ue,w_,qB,LW,EX,Zv,kW λ⟨h,_⟩=>c (mem.mpr h)⟩
  rintro σ H9 ⟨st,y5,y6,rfl,s9,Xy,Ob,S9,e9,l9,c9⟩;rw [av] at l9 c9;refine⟨st,_,_,_,_,_,rfl,s9,Xy,Ob,S9,λn=>?_,λn k j' hn=>?_⟩
  .have:=l9 n;omega
  rw [c9 n k j' hn];constructor
  .rintro⟨h1 | ⟨h1,h2⟩,h3⟩
   .exact⟨by omega,h3⟩
   exact⟨by omega,h3⟩
  rintro⟨h1,h3⟩;refine⟨?_,h3⟩;by_cases c:k < i
  .exact .inl c
  refine .inr ⟨by omega,?_⟩;obtain⟨CY,z',a1,_,a3,_⟩:=h3;have:k=i:=by omega
  rw [this,s_] at a1;cases a1;exact(bj.mp a3).1
 rintro σ H6 ⟨st,y3,y4,y5,y6,y7,rfl,s6,Oa,LF,S6,l6,c6⟩;rw [av,ll] at c6;refine⟨_,rfl,q d ps st bx H6 zx s6 LF S6 m4 OZ emp Ed λn k j hn=>?_⟩;rw [c6 n k j hn];constructor
 .exact λh=>h.2
 intro h;obtain⟨CY,_,a1,_⟩:=id h;exact⟨(bj.mp a1).1,h⟩
end
end gR
namespace L2
open PySem
def bW.r {H:Hp}{a:Addr}{kvs:List (aL×V)}{k:aL}(e:Rd H a (.dK kvs)):bW H a (kV k) (bf kvs k):=.inl ⟨kvs,k,e,rfl,rfl⟩
end L2
namespace gR
open PySem L2 M11
section
def Down (aa:List au) (names:List Str)(st:Str->List (Nat×Nat))(rk:Str->Nat):Prop:=∀n∈names,∀e∈st n,∃ru z,aa[e.1]?=some ru/\ru.2[e.2]?=some z/\z∈names/\rk z < rk n
def KW (K:a8):Sp:=λvs H Q _=>∃(R d:Addr)(rs:List Addr)(aa:List au)(ps:List (Str×Addr))(st:Str->List (Nat×Nat))(name:Str)(rk:Str->Nat),vs=[.ref R,.ref d,.str name]/\aG K H R (rs.map V.ref)/\bI K H rs aa/\aa.length<=1000 /\
 EZ K ps st H d/\ps.length<=1000/\name∈ps.map (·.1)/\Down aa (ps.map (·.1)) st rk/\∀(D:Addr)(H':Hp),H D=none->aB H H'->H' D=some (.lst [])->Q (.ref D) H'
structure EY (K:a8) (names:List Str)(rk:Str->Nat)(name:Str)(H H5:Hp)(D m:Addr)(mE:List Addr)(ka:List (Str×Addr)) (ms:List Str)(kvs:List (aL×V)):Prop where
 sm:aB H H5
 hD:H5 D=some (.lst (mE.map V.ref))
 hm:H5 m=some (.dK kvs)
 keys:kvs.map (·.1)=ms.map Sum.inr
 nd:ms.Nodup
 sub:∀x∈ms,x∈names
 wl:ka.length=ms.length+1
 wv:Paired (λt (e:Str×Addr)=>aR K H5 t [.str e.1,.ref e.2]) mE ka
 we:∀e∈ka,e.1∈names/\rk e.1<=rk name/\∃xs,H5 e.2=some (.lst xs)/\xs.length<=ka.length/\e.2≠D
def EY.same {names:List Str}{rk:Str->Nat}{name:Str}{H H5 H6:Hp}{D m:Addr}{mE:List Addr}{ka:List (Str×Addr)}{ms:List Str}{kvs:List (aL×V)}(h:EY K names rk name H H5 D m mE ka ms kvs)(s:aB H5 H6):EY K names rk name H H6 D m mE ka ms kvs :=
 ⟨h.sm.trans s,s _ _ h.hD,s _ _ h.hm,h.keys,h.nd,h.sub,h.wl,Paired.eI h.wv λ_ _ z=>s.tup z,λe he=>let ⟨a,b,xs,c,d⟩:=h.we e he;⟨a,b,xs,s _ _ c,d⟩⟩
def EY.len {names:List Str}{rk:Str->Nat}{name:Str}{H H5:Hp}{D m:Addr}{mE:List Addr}{ka:List (Str×Addr)}{ms:List Str}{kvs:List (aL×V)}(h:EY K names rk name H H5 D m mE ka ms kvs):mE.length=ka.length/\kvs.length=ms.length/\ms.length<=names.length:=by
 refine⟨a_ h.wv,?_,gy _ _ h.nd h.sub⟩;have:=congrArg List.length h.keys;simpa using this
def EY.more {names:List Str}{rk:Str->Nat}{name z:Str}{H H5 H9:Hp}{D m t c:Addr}{mE:List Addr}{ka:List (Str×Addr)}{ms:List Str}{kvs:List (aL×V)}{xs:List V}(h:EY K names rk name H H5 D m mE ka ms kvs)(fD:H D=none)(fm:H m=none)
  (hz:z∈names)(hr:rk z<=rk name)(hn:z∉ms)(s:aB (upd H5 m (.dK (bK kvs (Sum.inr z) (.bl true)))) H9)(ht:aR K H9 t [.str z,.ref c])(hc:H9 c=some (.lst xs))(hx:xs.length<=ka.length+1)(nc:c≠D) :
  EY K names rk name H (upd H9 D (.lst (mE.map V.ref++[.ref t]))) D m (mE++[t]) (ka++[(z,c)]) (ms++[z]) (bK kvs (Sum.inr z) (.bl true)):=by
 have Tc:D≠m:=λe=>by have:=h.hD;rw [e,h.hm] at this;cases this
 have Lu:H9 D=some (.lst (mE.map V.ref)):=s _ _ (by rw [ai Tc];exact h.hD);have hm9:H9 m=some (.dK (bK kvs (Sum.inr z) (.bl true))):=s _ _ ae;refine⟨λb o hb=>?_,by rw [ae,bF];rfl,by rw [ai Tc.symm];exact hm9,?_,?_,?_,?_,?_,?_⟩
 .rw [ai (λe=>by rw [e,fD] at hb;cases hb)];exact s _ _ (by rw [ai (λe=>by rw [e,fm] at hb;cases hb)];exact h.sm b o hb)
 .rw [iA (by rw [h.keys];exact λe=>hn (cM.mp e)),h.keys,bF];rfl
 .refine j8.mpr ⟨h.nd,by simp,λa ha b hb e=>?_⟩;rw [bB.mp hb] at e;exact hn (e ▸ ha)
 .intro x Wi;rcases cg.mp Wi with e | e
  .exact h.sub x e
  rw [bB.mp e];exact hz
 .rw [bp,bp,h.wl];rfl
 .exact gW (Paired.eI h.wv λ_ _ e=>aW Lu (s.tup (hX h.hm e))) (aW Lu ht)
 intro e he;rw [bp];rcases cg.mp he with e' | e'
 .obtain⟨a,b,ys,c1,d1,n1⟩:=h.we e e';exact⟨a,b,ys,by rw [ai n1];exact s _ _ (by rw [ai (λq=>by rw [q,h.hm] at c1;cases c1)];exact c1),by omega,n1⟩
 rw [bB.mp e'];exact⟨hz,hr,xs,by rw [ai nc];exact hc,hx,nc⟩
def nK:aI ["rules","steps","name","ways","met","at","way","number","place","part"] ["rules","steps","name"] (ay Mw):=iS rfl rfl rfl rfl (by decide +kernel)
def MY (F:ix K "way_back" "way_back" Mw f fd)(T:Txt mg):bQ P w K mg base fX 1 f fd ["rules","steps","name"] (KW K):=by
 refine F.ok nK (λvs H Q E h=>?_) (λeJ A outer s H vs Q E hr h=>?_)
 .obtain⟨R,d,rs,aa,ps,st,name,rk,rfl,_⟩:=h;rfl
 obtain⟨R,d,rs,aa,ps,st,name,rk,rfl,hR,cS,br,S,ZR,Hm,WW,q⟩:=h;have hu:=fV hr;refine⟨_,aj (aC (i:=3) nK.nd rfl (bA rfl) (bz (ab (bR (ab (pv 2) (ab (bz ah) ah))) ah)))
  (aj (aC (i:=4) nK.nd rfl (bA rfl) gP)
  (aj (aC (i:=5) nK.nd rfl (bA rfl) ar)
  (aj (kZ b8 (bw qg (pv 5) (aF aK rfl T.len dI (ab (pv 3) ah)) (bV _))
   (aj (aC (i:=6) nK.nd rfl (bA rfl) (aP bq (aP bS (pv 3) (pv 5) (λ_ _=>rfl)) ar (λ_ _=>rfl)))
   (aj (bJ b8 rfl (aX (eG hu (pv 1) (aP bq (aP bS (pv 3) (pv 5) (λ_ _=>rfl)) ar (λ_ _=>rfl)) (λ_ _=>rfl))) (gO rfl (aA (ao (i:=7) nK.nd rfl (bA rfl)) (aA (ao (i:=8) nK.nd rfl (bA rfl)) bU)))
    (aj (aC (i:=9) nK.nd rfl (bA rfl) (aP bq (aP bq (aP bS (pv 0) (pv 7) (λ_ _=>rfl)) ar (λ_ _=>rfl)) (pv 8) (λ_ _=>rfl)))
    (aj (bT (bw iN (pv 9) (pv 2) (bV _)) (ak iM) aS)
    (ak (bT (dG (dW hu (pv 9) (pv 4)))
     (aj (iB hu (pv 4) (pv 9) dU rfl) (ak (cA (gQ fZ gJ gK bL (pv 3) (ab (bR (ab (pv 9) (ab (aZ jO (pv 6) (bz (ab (bR (ab (pv 7) (ab (pv 8) ah))) ah))) ah))) ah))))) aS)))))
   (ak (MP (i:=5) nK.nd rfl (bA rfl) ar Nn)))))
  (ak (aQ (bz ah)))))),?_⟩
 nofun
 have uR:(ps.map (·.1)).length=ps.length:=av _;refine⟨_,rfl,rJ,λl0 TC=>?_⟩;have s1:=af TC (.lst []);have e1:upd H l0 (.lst []) l0=some (.lst []):=ae;generalize upd H l0 (.lst [])=H1 at s1 e1;refine⟨oJ,λt0 ht0=>?_⟩;have s2:=af ht0 (.tup [.str name,.ref l0]);have e2:aR K (upd H1 t0 (.tup [.str name,.ref l0])) t0 [.str name,.ref l0]:=aR.of ae;generalize upd H1 t0 (.tup [.str name,.ref l0])=H2 at s2 e2;refine⟨xB,λD hD=>?_⟩;have s3:=af hD (.lst [.ref t0]);have e3:upd H2 D (.lst [.ref t0]) D=some (.lst ([t0].map V.ref)):=ae;have nl0:l0≠D:=az (s2 _ _ e1) hD;generalize upd H2 D (.lst [.ref t0])=H3 at s3 e3;intro m hm;have s4:=af hm (.dK []);have e4:upd H3 m (.dK []) m=some (.dK []):=ae;generalize upd H3 m (.dK [])=H4 at s4 e4;have fD:H D=none:=(s1.trans s2).free hD;have fm:H m=none:=((s1.trans s2).trans s3).free hm;have W0:EY K (ps.map (·.1)) rk name H H4 D m [t0] [(name,l0)] [] []:=⟨((s1.trans s2).trans s3).trans s4,s4 _ _ e3,e4,rfl,kJ,by simp,rfl,.cons ((s3.trans s4).tup e2) .nil,λe he=>by
  rw [bB.mp he];exact⟨Hm,aD _,[],s4 _ _ (s3 _ _ (s2 _ _ e1)),by simp,nl0⟩⟩
 refine⟨λmm σ H5=>∃(mE:List Addr)(ka:List (Str×Addr)) (ms:List Str)(kvs:List (aL×V)) (at_:Nat)(y6 y7 y8 y9:Option V),σ=[aM R,aM d,some (.str name),aM D,aM m,some (.int (at_:Int)),y6,y7,y8,y9]/\EY K (ps.map (·.1)) rk name H H5 D m mE ka ms kvs /\
  at_<=ka.length/\mm=1002 - at_,⟨1002,[t0],[(name,l0)],[],[],0,none,none,none,none,rfl,W0,by simp,rfl⟩,?_⟩
 rintro mm σ H5 ⟨mE,ka,ms,kvs,at_,y6,y7,y8,y9,rfl,W,hat,rfl⟩;obtain⟨lw,lk,lm⟩:=W.len;have aac:=W.wl;refine⟨_,rfl,_,rfl,D,_,rfl,.inl (aG.of W.hD),_,_,rfl,rfl,_,rfl,?_⟩;refine cD (λc=>?_) (λc=>?_)
 .have c':=dw c;rw [av,lw] at c';have jd:at_ < ka.length:=by omega
  obtain⟨n,l,en⟩:∃n l,ka[at_]?=some (n,l):=⟨(ka[at_]).1,(ka[at_]).2,b9 jd⟩;obtain⟨t1,et1,Lp⟩:=Paired.at_ W.wv at_ (n,l) en;have Um:lQ (mE.map V.ref) (at_:Int)=some (.ref t1):=b_ (by rw [bo,et1];rfl);obtain⟨hn,hrn,xs,hl,hxl,M7⟩:=W.we (n,l) (bZ en);dsimp only at hn hrn hl M7;obtain⟨pn,yx,zy⟩:=cx.mp hn;have vn:=gZ ps S.n1 pn yx;rw [zy] at vn;obtain⟨YI,an,bn⟩:=S.lst pn yx;rw [zy] at bn;refine⟨λσ H5=>∃(mE:List Addr)(ka:List (Str×Addr)) (ms:List Str)(kvs:List (aL×V))(y6 y7 y8 y9:Option V),σ=[aM R,aM d,some (.str name),aM D,aM m,some (.int ((at_+1:Nat):Int)),y6,y7,y8,y9]/\EY K (ps.map (·.1)) rk name H H5 D m mE ka ms kvs/\at_+1<=ka.length,?_,?_⟩
  .rintro σ H6 ⟨mE,ka,ms,kvs,y6,y7,y8,y9,rfl,W2,h2⟩;exact⟨1002 - (at_+1),by omega,mE,ka,ms,kvs,at_+1,_,_,_,_,rfl,W2,h2,rfl⟩
  refine⟨_,rfl,_,rfl,D,_,_,_,rfl,rfl,aG.of W.hD,Um,t1,_,_,_,rfl,rfl,Lp,rfl,?_⟩;have hg:bW H5 d (.str n) (some (.ref pn.2)):=by
   have:=bW.r (k:=Sum.inr n) (Rd.same S.hd W.sm);rw [vn] at this;exact this
  refine⟨_,rfl,_,rfl,_,rfl,D,_,_,_,rfl,rfl,aG.of W.hD,Um,t1,_,_,_,rfl,rfl,Lp,rfl,d,_,rfl,hg,pn.2,rfl,⟨_,aG.of (W.sm _ _ an)⟩,?_⟩;refine cQ (xs:=YI.map V.ref) (λi σ H6=>∃(mE:List Addr)(ka:List (Str×Addr)) (ms:List Str)(kvs:List (aL×V))(y7 y8 y9:Option V),σ=[aM R,aM d,some (.str name),aM D,aM m,some (.int (at_:Int)),aM l,y7,y8,y9]/\EY K (ps.map (·.1)) rk name H H6 D m mE ka ms kvs /\
   at_+1<=ka.length/\∃e∈ka,e.2=l) ⟨mE,ka,ms,kvs,_,_,_,rfl,W,jd,(n,l),bZ en,rfl⟩ ?_ ?_ ?_
  .rintro i σ H6 _ ⟨mE,ka,ms,kvs,y7,y8,y9,rfl,W2,_⟩;exact aG.of (W2.sm _ _ an)
  .rintro i x σ H6 ex ⟨mE,ka,ms,kvs,y7,y8,y9,rfl,W2,h2,e0,WV,Xz⟩
   ac_nf0
   rw [bo] at ex;obtain⟨ti,eti,rfl⟩:=cf.mp ex;have lbn:=a_ bn;have lti:=(bj.mp eti).1;obtain⟨⟨k,j⟩,ekj⟩:∃e,(st n)[i]?=some e:=⟨(st n)[i]'(by omega),b9 (by omega)⟩;obtain⟨ti',RQ,hti⟩:=Paired.at_ bn i (k,j) ekj;rw [eti] at RQ;cases RQ;obtain⟨ru,z,er,ez,hz,hrk⟩:=WW n hn (k,j) (bZ ekj);obtain⟨r,Kj,p,v1,v2⟩:=Paired.at_ cS k ru er;have atr:lQ (rs.map V.ref) (k:Int)=some (.ref r):=b_ (by rw [bo,Kj];rfl);have Yg:lQ (ru.2.map V.str) (j:Int)=some (.str z):=b_ (by rw [bo,ez];rfl);obtain⟨lw2,Td,lm2⟩:=W2.len;have Zo:=W2.wl;refine⟨ti,_,rfl,W2.sm.tup hti,rfl,_,_,rfl,_,_,rfl,rfl,?_⟩;refine⟨_,rfl,_,rfl,R,_,_,_,rfl,rfl,W2.sm.seq hR,atr,r,_,_,_,rfl,rfl,W2.sm.tup v1,rfl,_,rfl,p,_,_,_,rfl,rfl,W2.sm.tup v2,Yg,?_⟩;refine⟨_,rfl,_,rfl,rfl,_,rfl,?_⟩;have nz:z≠name:=λe=>by rw [e] at hrk;omega
   refine cD (λc=>absurd (dw c) (λe=>nz (by injection e))) (λ_=>?_);have mem:(bf kvs (Sum.inr z)).isSome=true↔z∈ms:=by rw [dP,W2.keys];exact cM
   refine⟨_,rfl,_,rfl,m,_,rfl,bW.k (k:=Sum.inr z) W2.hm,_,rfl,?_⟩;refine cD (λc=>?_) (λc=>?_)
   .have nm:z∉ms:=λh=>by rw [mem.mpr h] at c;exact absurd c (by decide)
    refine⟨_,rfl,_,rfl,m,_,rfl,pV.k (k:=Sum.inr z) W2.hm (bE (by omega)),?_⟩;obtain⟨_,_,Jh,ui,aaj,VD⟩:=W2.we e0 WV;rw [Xz] at ui VD;have Tc:D≠m:=λe=>by have:=W2.hD;rw [e,W2.hm] at this;cases this
    have nlm:l≠m:=λe=>by rw [e,W2.hm] at ui;cases ui
    have NR:upd H6 m (.dK (bK kvs (Sum.inr z) (.bl true))) D=some (.lst (mE.map V.ref)):=by rw [ai Tc];exact W2.hD
    have hlu:upd H6 m (.dK (bK kvs (Sum.inr z) (.bl true))) l=some (.lst Jh):=by rw [ai nlm];exact ui
    refine⟨_,rfl,.inl ⟨rfl,_,aG.of NR⟩,_,rfl,_,rfl,_,rfl,_,rfl,oJ,λt4 DE=>?_⟩;have YW:=af DE (.tup [.int (k:Int),.int (j:Int)]);generalize upd (upd H6 m (.dK (bK kvs (Sum.inr z) (.bl true)))) t4 (.tup [.int (k:Int),.int (j:Int)])=H7 at YW;refine⟨xB,λl4 hl4=>?_⟩;have YV:=af hl4 (.lst [.ref t4]);have e5':upd H7 l4 (.lst [.ref t4]) l4=some (.lst [.ref t4]):=ae;generalize upd H7 l4 (.lst [.ref t4])=H8 at YV e5';have OI:=YW.trans YV;refine⟨l,l4,Jh,[.ref t4],rfl,rfl,OI _ _ hlu,e5',fits (by simp;omega),λc0 Z6=>?_⟩;have YU:=af Z6 (.lst (Jh++[.ref t4]));have e6':upd H8 c0 (.lst (Jh++[.ref t4])) c0=some (.lst (Jh++[.ref t4])):=ae;have nc0:c0≠D:=(az (OI _ _ NR) Z6).symm;generalize upd H8 c0 (.lst (Jh++[.ref t4]))=H9 at YU e6';refine⟨oJ,λt5 Q2=>?_⟩;have Va:=af Q2 (.tup [.str z,.ref c0]);have e7':aR K (upd H9 t5 (.tup [.str z,.ref c0])) t5 [.str z,.ref c0]:=aR.of ae;generalize upd H9 t5 (.tup [.str z,.ref c0])=zz at Va e7';have sA:=(OI.trans YU).trans Va;refine⟨D,_,_,rfl,rfl,sA _ _ NR,bE (by rw [av];omega),?_⟩;exact⟨mE++[t5],ka++[(z,c0)],ms++[z],_,_,_,_,rfl,W2.more fD fm hz (by omega) nm sA e7' (Va _ _ e6') (by rw [bp];simp;omega) nc0,by rw [bp];omega,e0,iG _ WV,Xz⟩
   exact⟨mE,ka,ms,kvs,_,_,_,rfl,W2,h2,e0,WV,Xz⟩
  rintro σ H6 ⟨mE,ka,ms,kvs,y7,y8,y9,rfl,W2,h2,_⟩;exact⟨_,rfl,_,_,rfl,rfl,mE,ka,ms,kvs,_,_,_,_,rfl,W2,h2⟩
 refine⟨rJ,λD9 Lu=>q D9 _ (W.sm.free Lu) (W.sm.trans (af Lu _)) ae⟩
end
end gR
namespace L2
open PySem PySem.Spec PyProof.Rows
section
variable {prog:Program}{w:World}{A:Around}{E:Value->Shared->Prop}{s:Shared}
def yY (a b c:Value):argsOk "min" ⟨[a],[("key",b),("default",c)]⟩:=by unfold argsOk;kernel_rfl
def uo {l:Addr}{kf dv:Value}{Q:Value->Shared->Prop}(hh:A.handled=none)(hl:s.heap.IsList l #[])(h:∀h' tk,(∀b o,s.heap.get? b=some o->h'.get? b=some o)->Q dv { s with heap:=h',toks:=tk }) :
  wpAny (model prog w) A (call (.builtin "min") [.ref l] [("key",kf),("default",dv)]) Q E s:=by
 have Hm:(toString "min" ++ toString ".loop":String) = "min.loop" := by decide
 refine kN (vy F.plain_min F.entry_min ?_);have core:wpAny (model prog w) A.in1 (Builtin.«min» ⟨[.ref l],[("key",kf),("default",dv)]⟩) (λfin s'=>match fin with
   | .done f=>(match (Except.ok f:Result) with | .ok (.ret v)=>Q v s' | .ok _=>False | .error e=>E e s')
   | .again c'=>c'.quiet=true/\codeAny (model prog w) A c' (λr s'=>match r with | .ok (.ret v)=>Q v s' | .ok _=>False | .error e=>E e s') s') E s:=by
  show wpAny _ A.in1 (Builtin.Builtins.bindParams "min" ["key","default"] 0 ⟨[],[("key",kf),("default",dv)]⟩ >>= _) _ _ s;refine aq (wpAny_of_eq (show Builtin.Builtins.bindParams "min" ["key","default"] 0 ⟨[],[("key",kf),("default",dv)]⟩=pure [some kf,some dv] from rfl) ?_);refine aq (aH ?_);refine aq (mw hl ?_);refine aq (gH ?_);rw [Hm];obtain⟨ol,h1,h2⟩:=id hl;generalize hG:s.heap.push { cls:=.type "list_iterator",data:=.fields #[.ref l,.int 0 0] }=G;have k1:∀b o,s.heap.get? b=some o->G.get? b=some o:=λb o e=>by rw [<-hG];exact bG _ e
  have hi:G.get? s.heap.objs.size=some { cls:=.type "list_iterator",data:=.fields #[.ref l,.int 0 0] }:=by rw [<-hG];exact cy _ rfl
  refine aH ⟨i8 F.plain_min_loop _,kK F.entry_min_loop ?_⟩;rw [lV F.plain_min_loop _];show wpAny _ A.in1 (seqItems? (.ref G.objs.size) >>= _) _ _ _;refine aq (mq (cy _ rfl) rfl ?_);show wpAny _ A.in1 (tryCatch (pyNext (.ref s.heap.objs.size)) _ >>= _) _ _ _;refine aq (wpAny_tryCatch (vG (show A.in1.handled=none from hh) ⟨_,bG _ hi,rfl,rfl⟩ ⟨ol,bG _ (k1 _ _ h1),h2⟩ (by simp) λh' eb=>?_));refine aq (ik (aH ?_));exact h h' _ λb o e=>eb b o (bD (bu e)) (bG _ (k1 b o e))
 simp only [checkBuiltinCall,F.kind_min];cases Wt:Manifest.signature? "min" with
 | none=>exact aH core
 | some sig =>
  have ha':Bind.checkArgs "min" sig ⟨[.ref l],[("key",kf),("default",dv)]⟩=pure ():=by have:=yY (.ref l) kf dv;simpa only [argsOk,Wt] using this
  simp only [ha'];exact aH core
end
def PJ (K:a8)(t:TA)(td:TE):TE:=λσ H Q=>t σ H λvs H1=>td σ H1 λdv H2=>∃a,vs=[.ref a]/\aG K H2 a []/\Q dv H2
def JB {X:Cx}{p pos lp V3 DA:Pos}{e e2:Expr}{t:TA}{td:TE}(hc:X.calm=true)(hg:Gl X "min")(hm:X.mg "min"=none)(Rm:Gl X "len")(Rg:X.mg "len"=none)(ha:PA X [e] t)(hd:PE X e2 td)
  (he:backTo pos (starEach [e] X.env)=(false,eval e X.env)::backTo pos (starEach [] X.env):=by rfl)(hp:(backTo pos (starEach [e] X.env)).any (·.1)=false:=by rfl) :
  PE X (.Call (.Name "min" p) [e] [⟨some "key",.Name "len" lp,V3⟩,⟨some "default",e2,DA⟩] pos) (PJ X.K t td):=by
 intro ag s σ H Q I h;refine nj (iP I hg hm boot_min ?_);refine callWith_kw (cW (ha pos ag s σ H _ I h) λus s1 ⟨vs,H1,I1,r1,q1⟩=>kws_cons (iP I1 Rm Rg dI (kws_cons (cW (hd ag s1 σ H1 _ I1 q1) λu2 s2 ⟨dv,H2,I2,r2,a,ev,hs,q⟩=>kws_nil ?_)))) he hp rfl rfl;subst ev;obtain⟨u,rfl,rx⟩:=vals1 r1;cases (show u=Value.ref a from rx);obtain⟨aN,rv,pl,hz⟩:=I2.list hs;cases rv;exact uo (I2.ok.hd hc) pl.isList λh' tk kk=>⟨dv,H2,I2.kept (t':=tk) kk,r2,q⟩
open PySem
def Es {K:a8}{H:Hp}{p D:Addr}{ls:List Addr}{σ:St}{x:Str}{Qp:Hp->Prop}(hp:H p=some (.lst (ls.map V.ref)))(hl:∀l∈ls,H l=some (.lst []))(hD:H D=none)(q:∀H2,aB H H2->H2 D=some (.lst [])->Qp H2) :
  ∃W:Nat->Nat->List V->St->Hp->Prop,(∃m,W 0 m [] (dN [x] [] σ) (upd H D (.lst []))) /\
 ∀i m ys σ' H,W i m ys σ' H->((kj K p).stop i H/\Qp H)\/((kj K p).go i H/\∃m',m' < m/\∀x H',(kj K p).mD i H x H'->dJ 0 x σ' H' λσ2 H2=>gC 0 σ2 H2 λx H'=>∃k,Io K x H' k/\(λb H3 =>
  if b=true then gC 0 σ2 H3 λy H4=>H4 D=some (.lst ys)/\ys.length < sizeLine/\W (i+1) m' (ys++[y]) σ2 (upd H4 D (.lst (ys++[y]))) else W (i+1) m' ys σ2 H3) k H'):=by
 refine cH (tif:=λσ H Q=>gC 0 σ H λx H'=>∃k,Io K x H' k/\Q k H') (xs:=ls.map V.ref) (λi ys σ2 H5=>ys=[]/\(∃y0,σ2=[y0])/\aB H H5/\H5 D=some (.lst [])) ⟨rfl,⟨none,rfl⟩,af hD _,ae⟩ (λi ys σ2 H5 _ h=>aG.of (h.2.2.1 _ _ hp)) (λi x ys σ2 H5 ex h=>?_) (λys σ2 H5 h=>?_)
 .obtain⟨rfl,⟨y0,rfl⟩,s5,e5⟩:=h;rw [bo] at ex;obtain⟨l,el,rfl⟩:=cf.mp ex;refine goN ?_;refine⟨_,rfl,false,.inl ⟨[],aG.of (s5 _ _ (hl l (bZ el))),rfl⟩,?_⟩;refine dq ?_;exact⟨rfl,⟨_,rfl⟩,s5,e5⟩
 obtain⟨rfl,_,s5,e5⟩:=h;exact q H5 s5 e5
end L2
namespace gR
open PySem L2 M11
section
def Iu (aa:List au)(rk:Str->Nat):Prop:=∀bx,xq aa bx->zg aa aa.length bx->∀n k j,Pj aa (hd aa) (λz=>decide (z∈bx.map (·.1))) n k j->∀ru z,aa[k]?=some ru->ru.2[j]?=some z->rk z < rk n
def Fm (K:a8):Sp:=λvs H Q _=>∃(R:Addr)(rs:List Addr)(aa:List au)(rk:Str->Nat),vs=[.ref R]/\aG K H R (rs.map V.ref)/\bI K H rs aa/\aa.length<=1000/\(∀ru∈aa,ru.2.length<=8)/\Iu aa rk /\
 ∀(D:Addr)(H':Hp),H D=none->aB H H'->H' D=some (.lst [])->Q (.ref D) H'
def zS:aI ["rules","steps","loops"] ["rules"] (ay FA):=iS rfl rfl rfl rfl (by decide +kernel)
def JM (F:ix K "find_loop" "find_loop" FA f fd)(T:Txt mg)(GS:aE P w K mg base 2 "steps_with_like_rows" ["rules"] (BI K))(GW:aE P w K mg base 1 "way_back" ["rules","steps","name"] (KW K)):bQ P w K mg base fX 3 f fd ["rules"] (Fm K):=by
 refine F.ok zS (λvs H Q E h=>?_) (λeJ A outer s H vs Q E hr h=>?_)
 .obtain⟨R,rs,aa,rk,rfl,_⟩:=h;rfl
 obtain⟨R,rs,aa,rk,rfl,hR,cS,br,h8,hnl,q⟩:=h;refine⟨_,aj (aC (i:=1) zS.nd rfl (Or.inr rfl) (bc GS hr rfl (ab (pv 0) ah)))
  (aj (jK (iy:=2) ["name"] [(0,"rules"),(1,"steps")] zS.nd rfl rfl rfl (B7 (pv 1)) (a9 rfl rfl) (by decide +kernel) rfl (by decide +kernel)
   (λ_ _ _ _ _=>ao (i:=0) (show (["name","rules","steps"]:List Str).Nodup by decide +kernel) rfl (bA rfl)) (λ_ _ _ _ _=>bO)
   (λ_ _ _ _ _=>bc (GW.mono (by decide:1<=2)) hr rfl (ab (pv 1) (ab (pv 2) (ab (pv 0) ah)))))
  (ak (aQ (JB rfl rfl T.min rfl T.len (ab (ba ["loop"] [] rfl (aX (pv 2)) (a9 rfl rfl) (by decide +kernel) rfl (by decide +kernel)
   (λ_ _ _ _ _=>ao (i:=0) (show (["loop"]:List Str).Nodup by decide +kernel) rfl (bA rfl)) (λ_ _ _ _ _=>hJ (C8 K (pv 0) (λ_=>rfl))) (λ_ _ _ _ _=>pv 0)) ah) (bz ah))))),?_⟩
 nofun
 refine⟨_,rfl,R,rs,aa,rfl,hR,cS,br,h8,λd ps st bx H1 fd1 s1 e1 S1 m1 OZ emp Ed hits=>?_⟩;have lps:ps.length<=1000:=by
  have h1:=congrArg List.length m1;have h2:=iD (aa.map (·.1)) [];simp only [iW,av] at h2;rw [av] at h1;have h3:(hd aa).length=(xc [] (aa.map (·.1))).length:=rfl;omega
 have WW:Down aa (ps.map (·.1)) st rk:=λn hn e he=>by
  rw [m1] at hn ⊢;have hit:=(hits n e.1 e.2 hn).mp he;obtain⟨ru,z,er,_,ez,hz,_⟩:=id hit;exact⟨ru,z,er,ez,hz,hnl bx emp Ed n e.1 e.2 hit ru z er ez⟩
 refine⟨_,rfl,d,_,rfl,e1,λo D hD=>?_⟩;have Vz:∀p∈ps,p.2≠d:=λp hp z=>by
  obtain⟨ts,a,_⟩:=S1.lst p hp;rw [z,e1] at a;cases a
 have s2:aB H (upd H1 d (.ku o (.dK (ps.map jx)))):=λb u hb=>by
  rw [ai (λz=>by rw [z,fd1] at hb;cases hb)];exact s1 b u hb
 have S2:EZ K ps st (upd H1 d (.ku o (.dK (ps.map jx)))) d:=⟨.inr ⟨o,ae⟩,S1.n1,S1.n2,λp hp=>by
  obtain⟨ts,a,b⟩:=S1.lst p hp;exact⟨ts,by rw [ai (Vz p hp)];exact a,Paired.eI b λ_ _ z=>hX e1 z⟩⟩
 have e2:upd H1 d (.ku o (.dK (ps.map jx))) d=some (.ku o (.dK (ps.map jx))):=ae;generalize upd H1 d (.ku o (.dK (ps.map jx)))=H2 at hD s2 S2 e2 ⊢;refine tM (λi ys σ2 H3=>∃ls:List Addr,ys=ls.map V.ref/\ls.length=i/\(∀l∈ls,H3 l=some (.lst [])/\l≠D)/\(∃y0,σ2=[y0,aM R,aM d])/\aB H2 H3/\H3 D=some (.lst ys))
  ⟨[],rfl,rfl,by simp,⟨none,rfl⟩,af hD _,ae⟩ (λi ys σ2 H3 _ h=>?_) (λi kv ys σ2 H3 ex h=>?_) (λys σ2 H3 h=>?_)
 .obtain⟨_,_,_,_,_,sm,_⟩:=h;exact sm _ _ e2
 .obtain⟨ls,rfl,ZV,hl,⟨y0,rfl⟩,sm,je⟩:=h;rw [bo] at ex;obtain⟨p,ep,rfl⟩:=cf.mp ex;have hp:=bZ ep;have li:=(bj.mp ep).1;refine goN (yB ?_);have s3:=s2.trans sm;refine⟨_,rfl,_,rfl,_,rfl,R,d,rs,aa,ps,st,p.1,rk,rfl,s3.seq hR,cS.same s3,br,S2.same sm,lps,j9 hp,WW,λD4 H4 f4 s4 e4=>?_⟩;have EU:=s4 _ _ je;have Zl:D4≠D:=λz=>by rw [z,je] at f4;cases f4
  refine⟨EU,bE (by rw [av];omega),ls++[D4],by rw [bF];rfl,by rw [bp,ZV];rfl,λl WM=>?_,⟨_,rfl⟩,λb u hb=>?_,ae⟩
  .rcases cg.mp WM with h | h
   .obtain⟨a1,a2⟩:=hl l h;exact⟨by rw [ai a2];exact s4 _ _ a1,a2⟩
   rw [bB.mp h];exact⟨by rw [ai Zl];exact e4,Zl⟩
  rw [ai (λz=>by rw [z,hD] at hb;cases hb)];exact s4 _ _ (sm b u hb)
 obtain⟨ls,rfl,ZV,hl,_,sm,je⟩:=h;have s3:=s2.trans sm;refine⟨_,rfl,D,rfl,⟨_,aG.of je⟩,λD5 Lv=>?_⟩;refine Es je (λl WM=>(hl l WM).1) Lv λH5 s5 e5=>?_;refine⟨rJ,λD6 Xd=>⟨D5,rfl,aG.of (af Xd _ _ _ e5),?_⟩⟩;exact q D6 _ ((s3.trans s5).free Xd) ((s3.trans s5).trans (af Xd _)) ae
end
end gR
namespace L2
open PySem
def Bs {K:a8}{T:Addr}{pos:Pos}{qu:Str}{H H':Hp}{a:Addr}{xs:List V}(s:cX T H H')(t:Tab T pos qu H)(h:aR K H a xs):aR K H' a xs:=by
 obtain⟨ps,b,_⟩:=t;rcases h with (h | ⟨u,h⟩) | h
 .exact .inl (.inl (s _ _ (λz=>by rw [z,b] at h;cases h) h))
 .exact .inl (.inr ⟨u,s _ _ (λz=>by rw [z,b] at h;cases h) h⟩)
 exact .inr h
def BX {K:a8}{T:Addr}{pos:Pos}{qu:Str}{H H':Hp}{a:Addr}{xs:List V}(s:cX T H H')(t:Tab T pos qu H)(h:aG K H a xs):aG K H' a xs:=by
 obtain⟨ps,b,_⟩:=t;rcases h with (h | ⟨u,h⟩) | h
 .exact .inl (.inl (s _ _ (λz=>by rw [z,b] at h;cases h) h))
 .exact .inl (.inr ⟨u,s _ _ (λz=>by rw [z,b] at h;cases h) h⟩)
 exact .inr h
def Bt {T T':Addr}{pos pos':Pos}{qu IG:Str}{H H':Hp}(s:cX T H H')(t:Tab T pos qu H)(h:Tab T' pos' IG H)(n:T'≠T):Tab T' pos' IG H':=by
 obtain⟨ps,b,_⟩:=t;obtain⟨EK,a,o,c⟩:=h;refine⟨EK,s _ _ n a,o,c.imp id ?_⟩;rintro⟨c',e,g⟩;exact⟨c',e,s _ _ (λz=>by rw [z,b] at g;cases g) g⟩
def tJ {K:a8}{H:Hp}{p D:Addr}{zs:List Str}{σ:St}{js:List (Nat×Str)}{cs:List (Option V)}{tif:TT}{te:TE}{Qp:Hp->Prop}(hσ:dN ["name"] js σ=none::cs)(hp:aG K H p (zs.map V.str))(hD:H D=none)
  (ht:∀z∈zs,∀H2 Q,aB H H2->Q false H2->tif (some (.str z)::cs) H2 Q)(q:∀H2,aB H H2->H2 D=some (.lst [])->Qp H2) :
  ∃W:Nat->Nat->List V->St->Hp->Prop,(∃m,W 0 m [] (dN ["name"] js σ) (upd H D (.lst []))) /\
 ∀i m ys σ' H,W i m ys σ' H->((kj K p).stop i H/\Qp H)\/((kj K p).go i H/\∃m',m' < m/\∀x H',(kj K p).mD i H x H'->dJ 0 x σ' H' λσ2 H2=>tif σ2 H2 λb H3 =>
  if b=true then te σ2 H3 λy H4=>H4 D=some (.lst ys)/\ys.length < sizeLine/\W (i+1) m' (ys++[y]) σ2 (upd H4 D (.lst (ys++[y]))) else W (i+1) m' ys σ2 H3):=by
 refine cH (xs:=zs.map V.str) (λi ys σ2 H5=>ys=[]/\(∃y0,σ2=y0::cs)/\aB H H5/\H5 D=some (.lst [])) ⟨rfl,⟨none,hσ⟩,af hD _,ae⟩ (λi ys σ2 H5 _ h=>h.2.2.1.seq hp) (λi x ys σ2 H5 ex h=>?_) (λys σ2 H5 h=>?_)
 .obtain⟨rfl,⟨y0,rfl⟩,s5,e5⟩:=h;rw [bo] at ex;obtain⟨z,ez,rfl⟩:=cf.mp ex;refine goN ?_;refine ht z (bZ ez) H5 _ s5 ?_;refine dq ?_;exact⟨rfl,⟨_,rfl⟩,s5,e5⟩
 obtain⟨rfl,_,s5,e5⟩:=h;exact q H5 s5 e5
end L2
namespace gR
open PySem L2 M11
section
structure Good (aa:List au)(rk:Str->Nat)(b:Str->Int):Prop where
 least:∀g,d_ M11.bl aa (zu aa) g->i5 M11.bl aa g->∀h∈hd aa,∃n,g h=some n/\n<=60
 met:∀lY ms,aa[0]?=some lY->lY.1∈ms->Iv aa aa.length ms->∀h∈hd aa,h∈ms
 loop:Iu aa rk
 Ul:zj aa b
 most:∀h∈hd aa,b h<=60
def mf (T1 T2:Addr)(H H':Hp):Prop:=∀b o,b≠T1->b≠T2->H b=some o->H' b=some o
def rQ (K:a8)(T1 T2:Addr):Sp:=λvs H Q _=>∃(R S:Addr)(rs ss:List Addr)(aa str:List au)(rk:Str->Nat)(b:Str->Int),vs=[.ref R,.ref S]/\aG K H R (rs.map V.ref)/\bI K H rs aa/\aa.length<=1000/\(∀ru∈aa,ru.2.length<=8)/\aa≠[] /\
 aG K H S (ss.map V.ref)/\bI K H ss str/\str.length<=1000/\(∀ru∈str,ru.2.length<=8)/\(str.flatMap (·.2)).Nodup/\Good aa rk b/\Tab T1 sH.2.2.2 zq H/\Tab T2 AD.2.2.2 Lc H/\T1≠T2 /\
 ∀H',mf T1 T2 H H'->Tab T1 sH.2.2.2 zq H'->Tab T2 AD.2.2.2 Lc H'->Q .eU H'
def h_:aI ["rules","strengths","least","endless","met","unmet","steps","greatest","vast"] ["rules","strengths"] (ay wb):=iS rfl rfl rfl rfl (by decide +kernel)
def Di {T1 T2:Addr}{tm:Tok}(F:ix K "refuse_faults" "refuse_faults" wb f fd)(T:Txt mg)(hM:mg "MOST_RULES"=some (.int 60 tm))(GT:aE P w K mg base 1 "refuse_twice" ["strengths"] (BH K))(GL:aE P w K mg base 3 "least_sizes" ["rules"] (qF K T1))
  (GH:aE P w K mg base 1 "heads_of" ["rules"] (jF K))(GM:aE P w K mg base 1 "names_met" ["rules"] (KZ K))(GF:aE P w K mg base 3 "find_loop" ["rules"] (Fm K))(GG:aE P w K mg base 3 "greatest_empty_sizes" ["rules"] (vW K T2)) :
  bQ P w K mg base fX 4 f fd ["rules","strengths"] (rQ K T1 T2):=by
 refine F.ok h_ (λvs H Q E h=>?_) (λeJ A outer s H vs Q E hr h=>?_)
 .obtain⟨R,S,rs,ss,aa,str,rk,b,rfl,_⟩:=h;rfl
 obtain⟨R,S,rs,ss,aa,str,rk,b,rfl,hR,cS,br,h8,ET,hS,Tq,Wo,Wx,Wv,gd,Ke,TQ,nT,q⟩:=h;have hu:=fV hr;refine⟨_,aj (bT (iL (iK (pv 0) (λ_=>rfl))) (ak iM) aS)
  (aj (cA (bc (GT.mono (by decide:1<=3)) hr rfl (ab (pv 1) ah)))
  (aj (aC (i:=2) h_.nd rfl (Or.inr rfl) (bc GL hr rfl (ab (pv 0) ah)))
  (aj (jK (iy:=3) ["name"] [(2,"least")] h_.nd rfl rfl rfl (aX (bc (GH.mono (by decide:1<=3)) hr rfl (ab (pv 0) ah))) (a9 rfl rfl) (by decide +kernel) rfl (by decide +kernel)
   (λ_ _ _ _ _=>ao (i:=0) (show (["name","least"]:List Str).Nodup by decide +kernel) rfl (bA rfl)) (λ_ _ _ _ _=>hJ (dG (dW hu (pv 0) (pv 1)))) (λ_ _ _ _ _=>pv 0))
  (aj (bT (iK (pv 3) (λ_=>rfl)) (ak iM) aS)
  (aj (aC (i:=4) h_.nd rfl (Or.inr rfl) (bc (GM.mono (by decide:1<=3)) hr rfl (ab (pv 0) ah)))
  (aj (jK (iy:=5) ["name"] [(4,"met")] h_.nd rfl rfl rfl (aX (bc (GH.mono (by decide:1<=3)) hr rfl (ab (pv 0) ah))) (a9 rfl rfl) (by decide +kernel) rfl (by decide +kernel)
   (λ_ _ _ _ _=>ao (i:=0) (show (["name","met"]:List Str).Nodup by decide +kernel) rfl (bA rfl)) (λ_ _ _ _ _=>hJ (dG (dW hu (pv 0) (pv 1)))) (λ_ _ _ _ _=>pv 0))
  (aj (bT (iK (pv 5) (λ_=>rfl)) (ak iM) aS)
  (aj (aC (i:=6) h_.nd rfl (bA rfl) (bc GF hr rfl (ab (pv 0) ah)))
  (aj (bT (iK (pv 6) (λ_=>rfl)) (ak iM) aS)
  (aj (aC (i:=7) h_.nd rfl (Or.inr rfl) (bc GG hr rfl (ab (pv 0) ah)))
  (aj (jK (iy:=8) ["name"] [(2,"least"),(7,"greatest")] h_.nd rfl rfl rfl (aX (bc (GH.mono (by decide:1<=3)) hr rfl (ab (pv 0) ah))) (a9 rfl rfl) (by decide +kernel) rfl (by decide +kernel)
   (λ_ _ _ _ _=>ao (i:=0) (show (["name","least","greatest"]:List Str).Nodup by decide +kernel) rfl (bA rfl)) (λ_ _ _ _ _=>hJ (bw ye (aF (Ew rfl) rfl T.max PyProof.Rows.boot_max (ab (eG hu (pv 1) (pv 0) (λ_ _=>rfl)) (ab (yb hu (pv 2) (pv 0) ar ⟨rfl,rfl,rfl,rfl⟩) ah))) (JD (v:=.int 60) rfl hM ⟨tm,rfl⟩) (bV _))) (λ_ _ _ _ _=>pv 0))
  (ak (bT (iK (pv 8) (λ_=>rfl)) (ak iM) aS))))))))))))),?_⟩
 nofun
 have ll:=a_ cS;obtain⟨lY,OQ⟩:∃lY,aa[0]?=some lY:=by
  cases aa with
  | nil=>exact absurd rfl ET
  | cons a r=>exact⟨a,rfl⟩
 have eR:(rs.map V.ref).isEmpty=false:=by
  have l0:=(bj.mp OQ).1;cases rs with
  | nil=>simp at ll;omega
  | cons a r=>rfl
 refine⟨_,rfl,true,.inl ⟨_,hR,by rw [eR];rfl⟩,?_⟩;refine dq ?_;refine⟨_,rfl,S,ss,str,rfl,hS,Tq,Wo,Wx,Wv,λH1 s1=>?_⟩;have SM:=Ke.same s1;have t21:=TQ.same s1;refine⟨_,rfl,R,rs,aa,rfl,s1.seq hR,cS.same s1,br,h8,SM,λdl kl ksl gl H2 fl s2 t12 el kkl vl stl sel _=>?_⟩;have IS:=BX s2 SM (s1.seq hR);have DG:=(cS.same s1).keep λ_ _ z=>Bs s2 SM z;have t22:=Bt s2 SM t21 nT.symm;have hl:=gd.least gl stl sel;have S02:mf T1 T2 H H2:=λb o n1 _ hb=>s2 b o n1 (s1 b o hb);refine⟨_,rfl,R,rs,aa,rfl,IS,DG,br,λD3 H3 f3 s3 e3=>⟨D3,rfl,⟨_,aG.of e3⟩,λD4 hD4=>tJ rfl (aG.of e3) hD4 (λz hz H' Q' s' hQ=>?_) λH4 s4 e4=>?_⟩⟩
 .obtain⟨n,en,_⟩:=hl z hz;have hg:bW H' dl (.str z) (some (.int n)):=by
   have:=bW.k (k:=Sum.inr z) (s' _ _ (s3 _ _ el));rw [vl,en] at this;exact this
  exact⟨_,rfl,_,rfl,dl,_,rfl,hg,_,rfl,hQ⟩
 refine⟨_,rfl,false,.inl ⟨[],aG.of e4,rfl⟩,?_⟩;refine dq ?_;have CS:=s3.trans s4;refine⟨_,rfl,R,rs,aa,lY,rfl,CS.seq IS,DG.same CS,OQ,br,h8,λdm km ms H5 f5 s5 em kkm CO _ mc5=>?_⟩;have Ve:=CS.trans s5;refine⟨_,rfl,R,rs,aa,rfl,Ve.seq IS,DG.same Ve,br,λD6 H6 f6 s6 e6=>⟨D6,rfl,⟨_,aG.of e6⟩,λD7 Xc=>tJ rfl (aG.of e6) Xc (λz hz H' Q' s' hQ=>?_) λH7 s7 e7=>?_⟩⟩
 .have hm:=gd.met lY ms OQ CO mc5 z hz;have hv:(bf km (Sum.inr z)).isSome=true:=by rw [dP,kkm];exact cM.mpr hm
  refine⟨_,rfl,_,rfl,dm,_,rfl,bW.k (k:=Sum.inr z) (s' _ _ (s6 _ _ em)),_,rfl,?_⟩;rw [hv];exact hQ
 refine⟨_,rfl,false,.inl ⟨[],aG.of e7,rfl⟩,?_⟩;refine dq ?_;have P9:=(Ve.trans s6).trans s7;refine⟨_,rfl,R,rs,aa,rk,rfl,P9.seq IS,DG.same P9,br,h8,gd.loop,λD8 H8 f8 s8 e8=>?_⟩;refine⟨_,rfl,false,.inl ⟨[],aG.of e8,rfl⟩,?_⟩;refine dq ?_;have K2:=P9.trans s8;have t18:=t12.same K2;have PZ:=t22.same K2;refine⟨_,rfl,R,rs,aa,b,rfl,K2.seq IS,DG.same K2,br,h8,gd.Ul,PZ,λdg kg ksg gg H9 f9 s9 t29 eg kkg vg jg _ _=>?_⟩;have hR9:=BX s9 PZ (K2.seq IS);have Wy:=(DG.same K2).keep λ_ _ z=>Bs s9 PZ z;have U2:=Bt s9 PZ t18 nT;have el8:=K2 _ _ el;have el9:=s9 _ _ (λz=>by obtain⟨ps,a,_⟩:=PZ;rw [<-z,el8] at a;cases a) el8;refine⟨_,rfl,R,rs,aa,rfl,hR9,Wy,br,λYy zz f10 ue EX=>⟨Yy,rfl,⟨_,aG.of EX⟩,λD11 Xe=>tJ rfl (aG.of EX) Xe (λz hz H' Q' s' hQ=>?_) λzd FJ IY=>?_⟩⟩
 .obtain⟨n,en,aak⟩:=hl z hz;have Kd:bW H' dl (.str z) (some (.int n)):=by
   have:=bW.k (k:=Sum.inr z) (s' _ _ (ue _ _ el9));rw [vl,en] at this;exact this
  have eg':=s' _ _ (ue _ _ eg);obtain⟨v,hv1,ZN⟩:∃v:Int,((gg z).map V.int).getD (.int 0)=.int v/\v<=60:=by
   cases e:gg z with
   | none=>exact⟨0,rfl,by decide⟩
   | some v=>exact⟨v,rfl,Int.le_trans (jg z v e).2.1 (gd.most z hz)⟩
  have Rm:bW H' dg (.str z) ((gg z).map V.int):=by
   have:=bW.k (k:=Sum.inr z) eg';rw [vg] at this;exact this
  refine⟨_,rfl,_,rfl,dl,_,rfl,Kd,_,rfl,dg,rfl,.inl ⟨_,.inl eg'⟩,_,rfl,_,Rm,?_⟩;rw [hv1];refine⟨n,v,rfl,_,_,rfl,rfl,_,rfl,?_⟩;rw [cU (by split <;> omega)]
  exact hQ
 refine⟨_,rfl,false,.inl ⟨[],aG.of IY,rfl⟩,?_⟩;refine dq ?_;have MD:=ue.trans FJ;exact q zd (λc o n1 n2 hc=>MD c o (s9 c o n2 (K2 c o (S02 c o n1 n2 hc)))) (U2.same MD) (t29.same MD)
end
end gR
namespace M11
open PySem L2
abbrev Be:=Str×Str×Nat×Nat
def gE (cR:List Be):List (Str×Str):=cR.map λb=>(b.1,b.2.1)
def ox (cR:List Be)(n:Str):List Str:=(cR.filter λb=>decide (b.1=n)).map (·.2.1)
def qv (names:List Str)(cR:List Be)(z:Str):List Str:=if z∈names then ox cR z else [z]
inductive xy (aa:List au) (names:List Str)(b:Str->Bool):List Be->Prop
 | nil:xy aa names b []
 | snoc {cR:List Be}{k j:Nat}{ru:au}{z w:Str}:xy aa names b cR->aa[k]?=some ru->ru.2[j]?=some z->j < DV b ru.2->w∈qv names cR z->(ru.1,w)∉gE cR->xy aa names b (cR++[(ru.1,w,k,j)])
def AX {cR:List Be}{n w:Str}:w∈ox cR n↔(n,w)∈gE cR:=by
 unfold ox gE;rw [cx,cx];constructor
 .rintro⟨b,hb,rfl⟩;obtain⟨h1,h2⟩:=lS.mp hb;exact⟨b,h1,by rw [dw h2]⟩
 rintro⟨b,hb,e⟩;cases e;exact⟨b,lS.mpr ⟨hb,bM rfl⟩,rfl⟩
def Cj (cR:List Be)(b:Be)(n:Str):ox (cR++[b]) n=ox cR n++(if b.1=n then [b.2.1] else []):=by
 unfold ox;rw [o8,bF];by_cases c:b.1=n
 .rw [ax c];simp [c]
 rw [aw c];simp [c]
end M11
namespace gR
open PySem L2 M11
def Kw:Stmt->List Stmt
 | .ClassDef _ _ _ b _ _ _ _ _ _ _=>b
 | _=>[]
abbrev QB (st:Stmt) (i:Nat):Stmt:=(Kw st).getD i (.Pass ⟨0,0,0,0⟩)
abbrev z9:Stmt:=QB z8 0
abbrev FH:Stmt:=QB z8 1
abbrev zX:Stmt:=QB z8 2
abbrev wk:Stmt:=QB FC 0
section
structure BC (K:a8)(C:Addr):Prop where
 cls:EG K C
 a1:dZ K C "empties"
 a2:dZ K C "empty"
 a3:dZ K C "begins"
 a4:dZ K C "firsts"
structure uu (K:a8)(C:Addr)(H0 H:Hp)(a e d bg:Addr)(kE:List (aL×V))(bx:List (Str×Nat))(ps:List (Str×Addr))(cR:List Be):Prop where
 sm:aB H0 H
 ia:∃dx fs,H a=some (.ins C dx fs)/\fs.lookup ("empty":Str)=some (.ref e)/\fs.lookup ("begins":Str)=some (.ref bg)/\fs.lookup ("firsts":Str)=some (.ref d)/\fs.lookup ("find_begins":Str)=none/\fs.lookup ("words_of_part":Str)=none
 he:H e=some (.dK kE)
 hd:H d=some (.dK (ps.map jx))
 n1:(ps.map (·.1)).Nodup
 n2:(ps.map (·.2)).Nodup
 dk:∀p∈ps,(∃kvs,H p.2=some (.dK kvs)/\kvs.map (·.1)=(ox cR p.1).map Sum.inr)/\H0 p.2=none/\p.2≠e/\p.2≠d
 lb:∃ts,H bg=some (.lst (ts.map V.ref))/\Paired (λt (b:Be)=>aR K H t [.str b.1,.str b.2.1,.int (b.2.2.1:Int),.int (b.2.2.2:Int)]) ts cR
 fb:H0 bg=none
 em:∃e1 ts,(∃dx fs,H a=some (.ins C dx fs)/\fs.lookup ("empties":Str)=some (.ref e1))/\H e1=some (.lst (ts.map V.ref))/\pT K H ts bx/\e1≠bg
def uu.same {C:Addr}{H0 H H':Hp}{a e d bg:Addr}{kE:List (aL×V)}{bx:List (Str×Nat)}{ps:List (Str×Addr)}{cR:List Be}(h:uu K C H0 H a e d bg kE bx ps cR)(s:aB H H'):uu K C H0 H' a e d bg kE bx ps cR:=by
 refine⟨h.sm.trans s,?_,s _ _ h.he,s _ _ h.hd,h.n1,h.n2,λp hp=>?_,?_,h.fb,?_⟩
 .obtain⟨dx,fs,q,r⟩:=h.ia;exact⟨dx,fs,s _ _ q,r⟩
 .obtain⟨⟨kvs,q,r⟩,t⟩:=h.dk p hp;exact⟨⟨kvs,s _ _ q,r⟩,t⟩
 .obtain⟨ts,q,r⟩:=h.lb;exact⟨ts,s _ _ q,Paired.eI r λ_ _ z=>s.tup z⟩
 obtain⟨e1,ts,⟨dx,fs,q1,q2⟩,q3,q4,q5⟩:=h.em;exact⟨e1,ts,⟨dx,fs,s _ _ q1,q2⟩,s _ _ q3,q4.keep λ_ _ z=>s.tup z,q5⟩
def BJ (K:a8)(C:Addr):Sp:=λvs H Q _=>∃(H0:Hp)(a e d bg:Addr)(kE:List (aL×V))(bx:List (Str×Nat))(ps:List (Str×Addr))(cR:List Be)(z:Str),vs=[.ref a,.str z]/\uu K C H0 H a e d bg kE bx ps cR /\
 ∀(D:Addr)(H':Hp),H D=none->aB H H'->H' D=some (.lst ((qv (ps.map (·.1)) cR z).map V.str))->Q (.ref D) H'
def Jo:aI ["self","part"] ["self","part"] (ay zX):=iS rfl rfl rfl rfl (by decide +kernel)
def Gp {C:Addr}(F:ix K "words_of_part" "BeginTable.words_of_part" zX f fd)(T:Txt mg)(B:BC K C):bQ P w K mg base fX 1 f fd ["self","part"] (BJ K C):=by
 refine F.ok Jo (λvs H Q E h=>?_) (λeJ A outer s H vs Q E hr h=>?_)
 .obtain⟨H0,a,e,d,bg,kE,bx,ps,cR,z,rfl,_⟩:=h;rfl
 obtain⟨H0,a,e,d,bg,kE,bx,ps,cR,z,rfl,S,q⟩:=h;have hu:=fV hr;obtain⟨dx,fs,ea,f1,f2,f3,f4,f5⟩:=S.ia;refine⟨_,ak (aQ (so (dG (jb hu (pv 1) (eZ (pv 0) rfl))) (aV (mV rfl) rfl T.lst dY (ab (eG hu (eZ (pv 0) rfl) (pv 1) (λ_ _=>rfl)) ah)) (bz (ab (pv 1) ah)))),?_⟩;dsimp only [Ba];have mem:(bf (ps.map jx) (Sum.inr z)).isSome=true↔z∈ps.map (·.1):=by rw [dP,n6];exact cM
 refine⟨_,rfl,_,rfl,a,C,dx,fs,_,rfl,ea,B.cls,B.a4,f3,d,_,rfl,bW.k (k:=Sum.inr z) S.hd,_,rfl,?_⟩;refine cD (λc=>?_) (λc=>?_)
 .have hz:=mem.mp c;obtain⟨p,hp,ep⟩:=cx.mp hz;obtain⟨⟨kvs,hk,kk⟩,_⟩:=S.dk p hp;have vn:=gZ ps S.n1 p hp;rw [ep] at vn;have hg:bW H d (.str z) (some (.ref p.2)):=by
   have:=bW.k (k:=Sum.inr z) S.hd;rw [vn] at this;exact this
  refine⟨_,rfl,a,C,dx,fs,_,rfl,ea,B.cls,B.a4,f3,_,rfl,d,_,rfl,hg,p.2,kvs,rfl,hk,λD hD=>?_⟩;refine q D _ hD (af hD _) ?_;rw [ae,keys_str kk,ep];unfold qv;rw [ax hz]
 refine⟨_,rfl,xB,λD hD=>?_⟩;refine q D _ hD (af hD _) ?_;rw [ae];unfold qv;rw [aw (λh=>c (mem.mpr h))];rfl
def uu.more {C:Addr}{H0 H H2:Hp}{a e d bg t:Addr}{kE kvs:List (aL×V)}{bx:List (Str×Nat)}{ps:List (Str×Addr)}{cR:List Be}{p:Str×Addr}{wd:Str}{k j:Nat}{ts:List Addr}(h:uu K C H0 H a e d bg kE bx ps cR)(hp:p∈ps)(hk:H p.2=some (.dK kvs))(kk:kvs.map (·.1)=(ox cR p.1).map Sum.inr)
  (hn:(p.1,wd)∉gE cR)(hb:H bg=some (.lst (ts.map V.ref)))(OV:Paired (λt (b:Be)=>aR K H t [.str b.1,.str b.2.1,.int (b.2.2.1:Int),.int (b.2.2.2:Int)]) ts cR)
  (s:aB (upd H p.2 (.dK (bK kvs (Sum.inr wd) (.bl true)))) H2)(ht:aR K H2 t [.str p.1,.str wd,.int (k:Int),.int (j:Int)]) :
  uu K C H0 (upd H2 bg (.lst (ts.map V.ref++[.ref t]))) a e d bg kE bx ps (cR++[(p.1,wd,k,j)]):=by
 have Tb:bg≠p.2:=λz=>by rw [z,hk] at hb;cases hb
 have NO:H2 bg=some (.lst (ts.map V.ref)):=s _ _ (by rw [ai Tb];exact hb);obtain⟨_,fp,Zb,Zc⟩:=h.dk p hp;have up:∀c o,c≠bg->c≠p.2->H c=some o->upd H2 bg (.lst (ts.map V.ref++[.ref t])) c=some o:=λc o n1 n2 q=>by
  rw [ai n1];exact s _ _ (by rw [ai n2];exact q)
 refine⟨λc o hc=>up c o (λz=>by rw [z,h.fb] at hc;cases hc) (λz=>by rw [z,fp] at hc;cases hc) (h.sm c o hc),?_,up _ _ (λz=>by have:=h.he;rw [z,hb] at this;cases this) Zb.symm h.he,up _ _ (λz=>by have:=h.hd;rw [z,hb] at this;cases this) Zc.symm h.hd,h.n1,h.n2,λp' pK=>?_,⟨ts++[t],by rw [ae,bF];rfl,?_⟩,h.fb,?_⟩
 .obtain⟨dx,fs,q,r⟩:=h.ia;exact⟨dx,fs,up _ _ (λz=>by rw [z,hb] at q;cases q) (λz=>by rw [z,hk] at q;cases q) q,r⟩
 .obtain⟨⟨mN,q,r⟩,t'⟩:=h.dk p' pK;refine⟨?_,t'⟩;by_cases z:p'=p
  .rw [z];refine⟨bK kvs (Sum.inr wd) (.bl true),by rw [ai Tb.symm];exact s _ _ ae,?_⟩;rw [iA (by rw [kk];exact λq=>hn (AX.mp (cM.mp q))),kk,Cj,ax rfl,bF];rfl
  have n1:p'.1≠p.1:=λq'=>z (by
   have w1:=gZ ps h.n1 p' pK;have w2:=gZ ps h.n1 p hp;rw [q',w2] at w1;injection w1 with w3;injection w3 with w4;exact Prod.ext q' w4.symm)
  have n2:p'.2≠p.2:=λq'=>by
   obtain⟨i,hi,ei⟩:=qR.mp pK;obtain⟨j',hj,ej⟩:=qR.mp hp;have Kc:i=j':=by
    refine(vp (xs:=ps.map (·.2)) (h₀:=by simpa using hi) (h₁:=by simpa using hj) h.n2).mp ?_;rw [oY,oY,ei,ej];exact q'
   subst Kc;exact z (ei.symm.trans ej)
  refine⟨mN,up _ _ (λz=>by rw [z,hb] at q;cases q) n2 q,?_⟩;rw [r,Cj,aw (λq'=>n1 q'.symm),ir]
 .exact gW (Paired.eI OV λ_ _ z=>aW NO (s.tup (hX hk z))) (aW NO ht)
 obtain⟨e1,te,⟨dx,fs,q1,q2⟩,q3,q4,q5⟩:=h.em;exact⟨e1,te,⟨dx,fs,up _ _ (λz=>by rw [z,hb] at q1;cases q1) (λz=>by rw [z,hk] at q1;cases q1) q1,q2⟩,up _ _ q5 (λz=>by rw [z,hk] at q3;cases q3) q3,q4.keep λ_ _ z=>aW NO (s.tup (hX hk z)),q5⟩
def NV (l m:List Be)(n:Str):ox (l++m) n=ox l n++ox m n:=by
 unfold ox;rw [o8,bF]
def Ji {names:List Str}(l m:List Be){z x:Str}(h:x∈qv names l z):x∈qv names (l++m) z:=by
 unfold qv at h ⊢
 split
 .rename_i c
  rw [ax c] at h;rw [NV];exact iG _ h
 rename_i c
 rw [aw c] at h;exact h
def NU (cR:List Be)(n:Str):(ox cR n).length<=cR.length:=by
 unfold ox;rw [av];exact rE _ _
def Ot {n i:Nat}(h:i < n):(cnt n)[i]?=some (.int (i:Int)):=by
 unfold cnt;rw [bo,List.getElem?_range h];rfl
def Cu (n:Nat):(cnt n).length=n:=by unfold cnt;rw [av,mx]
def Fp (K:a8)(C:Addr):Sp:=λvs H Q _=>∃(H0:Hp)(a e d bg r:Addr)(kE:List (aL×V))(bx:List (Str×Nat))(ps:List (Str×Addr))(cR:List Be) (k:Nat)(ru:au)(aa:List au),vs=[.ref a,.int (k:Int),.ref r]/\uu K C H0 H a e d bg kE bx ps cR/\CF K H0 r ru/\aa[k]?=some ru/\ru.2.length<=8 /\
 ru.1∈ps.map (·.1)/\(∀xi:List Be,xy aa (ps.map (·.1)) (λz=>(bf kE (Sum.inr z)).isSome) xi->xi.length<=900000)/\xy aa (ps.map (·.1)) (λz=>(bf kE (Sum.inr z)).isSome) cR /\
 ∀(xi:List Be)(H':Hp),uu K C H0 H' a e d bg kE bx ps xi->xy aa (ps.map (·.1)) (λz=>(bf kE (Sum.inr z)).isSome) xi->cR.length<=xi.length->(xi.length=cR.length->xi=cR/\∀j z,j < DV (λz=>(bf kE (Sum.inr z)).isSome) ru.2->ru.2[j]?=some z->∀wd∈qv (ps.map (·.1)) cR z,(ru.1,wd)∈gE cR)->Q .eU H'
def v9:aI ["self","number","rule","own","place","word"] ["self","number","rule"] (ay FH):=iS rfl rfl rfl rfl (by decide +kernel)
def JP {C fW:Addr}{fdW:FuncData}(F:ix K "find_begins" "BeginTable.find_begins" FH f fd)(T:Txt mg)(B:BC K C)(GP:aE P w K mg base 1 "first_places" ["parts","empty"] (xO K))(FW:bQ P w K mg base fX 1 fW fdW ["self","part"] (BJ K C))(MW:Meth K C "words_of_part" fW)(BW:Binds K fdW ["self","part"] []) :
  bQ P w K mg base fX 2 f fd ["self","number","rule"] (Fp K C):=by
 refine F.ok v9 (λvs H Q E h=>?_) (λeJ A outer s H vs Q E hr h=>?_)
 .obtain⟨H0,a,e,d,bg,r,kE,bx,ps,cR,k,ru,aa,rfl,_⟩:=h;rfl
 obtain⟨H0,a,e,d,bg,r,kE,bx,ps,cR,k,ru,aa,rfl,S,⟨p,v1,v2⟩,er,h8,hh,hbd,W3,q⟩:=h;have hu:=fV hr;refine⟨_,aj (aC (i:=3) v9.nd rfl (bA rfl) (eG hu (eZ (pv 0) rfl) (aP bq (pv 2) ar (λ_ _=>rfl)) (λ_ _=>rfl)))
  (ak (bJ b8 rfl (aX (bc GP hr rfl (ab (aP bq (pv 2) ar (λ_ _=>rfl)) (ab (eZ (pv 0) rfl) ah)))) (ao (i:=4) v9.nd rfl (bA rfl))
   (ak (bJ b8 rfl (aX (B9 (pv 0) B.cls MW FW hr BW .nil uI (ab (aP bq (aP bq (pv 2) ar (λ_ _=>rfl)) (pv 4) (λ_ _=>rfl)) ah))) (ao (i:=5) v9.nd rfl (bA rfl))
    (ak (bT (dG (dW hu (pv 5) (pv 3)))
     (aj (iB hu (pv 3) (pv 5) dU rfl)
     (ak (cA (gQ fZ gJ gK bL (eZ (pv 0) rfl) (ab (bR (ab (aP bq (pv 2) ar (λ_ _=>rfl)) (ab (pv 5) (ab (pv 1) (ab (pv 4) ah))))) ah))))) aS)))))),?_⟩
 nofun
 obtain⟨pn,yx,zy⟩:=cx.mp hh;have vn:=gZ ps S.n1 pn yx;rw [zy] at vn;obtain⟨dx,fs,ea,f1,f2,f3,f4,f5⟩:=S.ia;have hg:bW H d (.str ru.1) (some (.ref pn.2)):=by
  have:=bW.k (k:=Sum.inr ru.1) S.hd;rw [vn] at this;exact this
 refine⟨_,rfl,a,C,dx,fs,_,rfl,ea,B.cls,B.a4,f3,_,rfl,r,_,_,_,rfl,rfl,S.sm.tup v1,rfl,d,_,rfl,hg,?_⟩;refine⟨_,rfl,r,_,_,_,rfl,rfl,S.sm.tup v1,rfl,_,rfl,a,C,dx,fs,_,rfl,ea,B.cls,B.a2,f1,p,e,ru.2,kE,rfl,S.sm.tup v2,by omega,S.he,λD5 H5 f6 s5 e5=>⟨D5,rfl,⟨_,aG.of e5⟩,?_⟩⟩;obtain⟨ts0,hb0,_⟩:=S.lb;have nDb:D5≠bg:=λz=>by rw [z,hb0] at f6;cases f6
 have fle:=HI (λz=>(bf kE (Sum.inr z)).isSome) ru.2;generalize hb:(λz=>(bf kE (Sum.inr z)).isSome)=b at *;generalize hn:DV b ru.2=n at *;refine cQ (xs:=cnt n) (λi σ H6=>∃(d7:List Be)(y4 y5:Option V),σ=[aM a,some (.int (k:Int)),aM r,some (.ref pn.2),y4,y5]/\uu K C H0 H6 a e d bg kE bx ps d7/\H6 D5=some (.lst (cnt n))/\xy aa (ps.map (·.1)) b d7/\cR.length<=d7.length /\
  (d7.length=cR.length->d7=cR/\∀j z,j < i->ru.2[j]?=some z->∀wd∈qv (ps.map (·.1)) cR z,(ru.1,wd)∈gE cR)) ⟨cR,none,none,rfl,S.same s5,e5,W3,aD _,λ_=>⟨rfl,λj z hj=>by omega⟩⟩ ?_ ?_ ?_
 .rintro i σ H6 _ ⟨d7,y4,y5,rfl,S2,e6,_⟩;exact aG.of e6
 .intro i x σ H6 ex lC
  ac_nf0
  obtain⟨d7,y4,y5,rfl,S2,e6,X6,l2,c2⟩:=lC;have li:i < n:=by have:=(bj.mp ex).1;rw [Cu] at this;exact this
  rw [Ot li] at ex;cases ex;have lz:i < ru.2.length:=by omega
  obtain⟨z,ez⟩:∃z,ru.2[i]?=some z:=⟨ru.2[i],b9 lz⟩;have Yg:lQ (ru.2.map V.str) (i:Int)=some (.str z):=b_ (by rw [bo,ez];rfl);obtain⟨Ug,uk,R6,g1,g2,g3,g4,g5⟩:=S2.ia;refine goN ?_
  ac_nf
  refine⟨_,rfl,a,Ug,uk,rfl,R6,g5,_,rfl,r,_,_,_,rfl,rfl,S2.sm.tup v1,rfl,_,rfl,p,_,_,_,rfl,rfl,S2.sm.tup v2,Yg,H0,a,e,d,bg,kE,bx,ps,d7,z,rfl,S2,λD6 H7 f7 s7 e7=>⟨D6,rfl,⟨_,aG.of e7⟩,?_⟩⟩;obtain⟨xr,NO,_⟩:=S2.lb;have nD6:D6≠bg:=λz=>by rw [z,NO] at f7;cases f7
  generalize ZJ:qv (ps.map (·.1)) d7 z=ws at *;refine cQ (xs:=ws.map V.str) (λm σ H8=>∃(l:List Be)(y5:Option V),σ=[aM a,some (.int (k:Int)),aM r,some (.ref pn.2),some (.int (i:Int)),y5]/\uu K C H0 H8 a e d bg kE bx ps (d7++l)/\H8 D5=some (.lst (cnt n))/\H8 D6=some (.lst (ws.map V.str))/\xy aa (ps.map (·.1)) b (d7++l) /\
   (l=[]->∀wd∈ws.take m,(ru.1,wd)∈gE d7)) ⟨[],_,rfl,by rw [ir];exact S2.same s7,s7 _ _ e6,e7,by rw [ir];exact X6,λ_ wd h=>by simp at h⟩ ?_ ?_ ?_
  .rintro m σ H8 _ ⟨l,y5,rfl,S3,e8,e9,_⟩;exact aG.of e9
  .intro m x σ H8 ex lC
   ac_nf0
   obtain⟨l,y5,rfl,S3,e8,e9,Sj,c3⟩:=lC;rw [bo] at ex;obtain⟨wd,ew,rfl⟩:=cf.mp ex;obtain⟨⟨kvs,hk,kk⟩,fp,Zb,Zc⟩:=S3.dk pn yx;obtain⟨SI,TN,Ry⟩:=S3.lb;have lim:=hbd _ Sj;have ltk:kvs.length<=900000:=by
    have h1:=congrArg List.length kk;rw [av,av] at h1;have:=NU (d7++l) pn.1;omega
   have ltt:=a_ Ry;have mem:(bf kvs (Sum.inr wd)).isSome=true↔(ru.1,wd)∈gE (d7++l):=by rw [dP,kk,cM,AX,zy]
   refine goN ?_
   ac_nf
   refine⟨_,rfl,_,rfl,pn.2,_,rfl,bW.k (k:=Sum.inr wd) hk,_,rfl,?_⟩;refine cD (λc=>?_) (λc=>?_)
   .have nm:(ru.1,wd)∉gE (d7++l):=λh=>by rw [mem.mpr h] at c;exact absurd c (by decide)
    refine⟨_,rfl,_,rfl,_,_,rfl,pV.k (k:=Sum.inr wd) hk (bE (by omega)),?_⟩;obtain⟨dx3,IU,XC,k1,k2,k3,k4,k5⟩:=S3.ia;have nap:a≠pn.2:=λz=>by rw [z,hk] at XC;cases XC
    have Tb:bg≠pn.2:=λz=>by rw [z,hk] at TN;cases TN
    have Od:upd H8 pn.2 (.dK (bK kvs (Sum.inr wd) (.bl true))) a=some (.ins C dx3 IU):=by rw [ai nap];exact XC
    have Z7:upd H8 pn.2 (.dK (bK kvs (Sum.inr wd) (.bl true))) bg=some (.lst (SI.map V.ref)):=by rw [ai Tb];exact TN
    refine⟨_,rfl,a,C,dx3,IU,_,rfl,Od,B.cls,B.a3,k2,.inl ⟨rfl,_,aG.of Z7⟩,_,rfl,r,_,_,_,rfl,rfl,hX hk (S3.sm.tup v1),rfl,_,rfl,_,rfl,_,rfl,zl4,λt4 DE=>?_⟩;have s4:=af DE (.tup [.str ru.1,.str wd,.int (k:Int),.int (i:Int)]);have e4:aR K (upd (upd H8 pn.2 (.dK (bK kvs (Sum.inr wd) (.bl true)))) t4 (.tup [.str ru.1,.str wd,.int (k:Int),.int (i:Int)])) t4 [.str ru.1,.str wd,.int (k:Int),.int (i:Int)]:=aR.of ae;generalize upd (upd H8 pn.2 (.dK (bK kvs (Sum.inr wd) (.bl true)))) t4 (.tup [.str ru.1,.str wd,.int (k:Int),.int (i:Int)])=H9 at s4 e4;refine⟨bg,_,_,rfl,rfl,s4 _ _ Z7,bE (by rw [av];omega),?_⟩;have nm':(pn.1,wd)∉gE (d7++l):=by rw [zy];exact nm
    have S4:=S3.more (k:=k) (j:=i) yx hk kk nm' TN Ry s4 (by rw [zy];exact e4);have Lh:∀D ys,H8 D=some (.lst ys)->D≠bg->upd H9 bg (.lst (SI.map V.ref++[.ref t4])) D=some (.lst ys):=λD ys hD nb=>by
     rw [ai nb];exact s4 _ _ (by rw [ai (λz=>by rw [z,hk] at hD;cases hD)];exact hD)
    rw [lU,zy] at S4;refine⟨l++[(ru.1,wd,k,i)],_,rfl,S4,Lh _ _ e8 nDb,Lh _ _ e9 nD6,?_,λh=>by simp at h⟩;rw [<-lU];refine .snoc Sj er ez (by rw [hn];exact li) (Ji d7 l (by rw [ZJ];exact bZ ew)) nm
   refine⟨l,_,rfl,S3,e8,e9,Sj,λhl x hx=>?_⟩;rw [cP,ew] at hx;rcases cg.mp hx with h | h
   .exact c3 hl x h
   rw [Option.toList_some,bB] at h;subst h;have hm:(ru.1,x)∈gE (d7++l):=mem.mp (by
    cases hq:(bf kvs (Sum.inr x)).isSome with
    | true=>rfl
    | false=>exact absurd (by rw [hq];rfl) c)
   rw [hl,ir] at hm;exact hm
  rintro σ H8 ⟨l,y5,rfl,S3,e8,e9,Sj,c3⟩;rw [av,cO] at c3;refine⟨d7++l,_,_,rfl,S3,e8,Sj,by rw [bp];omega,λRi=>?_⟩;rw [bp] at Ri;have TC:l=[]:=rG.mp (by omega);obtain⟨NM,mZ⟩:=c2 (by omega);rw [TC,ir];refine⟨NM,λj z' hj Xp wd ZL=>?_⟩;by_cases cj:j < i
  .exact mZ j z' cj Xp wd ZL
  have:j=i:=by omega
  subst this;rw [ez] at Xp;cases Xp;have:=c3 TC wd (by rw [<-ZJ,NM];exact ZL);rw [NM] at this;exact this
 rintro σ H6 ⟨d7,y4,y5,rfl,S2,e6,X6,l2,c2⟩;rw [Cu] at c2;exact q d7 H6 S2 X6 l2 c2
end
end gR
namespace L2
open PySem M11
def yP {K:a8}{H:Hp}{p D:Addr}{zs:List Str}{σ:St}{x:Str}{Qp:Hp->Prop}(hp:aG K H p (zs.map V.str))(hz:zs.length<=10000)(hD:H D=none)
  (q:∀ts (ps:List (Str×Addr)) H2,aB H H2->H2 D=some (.lst (ts.map V.ref))->ps.map (·.1)=zs->Paired (λt (p:Str×Addr)=>aR K H2 t [.str p.1,.ref p.2]) ts ps->(∀p∈ps,H2 p.2=some (.dK [])/\H p.2=none/\p.2≠D)->(ps.map (·.2)).Nodup->Qp H2) :
  ∃W:Nat->Nat->List V->St->Hp->Prop,(∃m,W 0 m [] (dN [x] [] σ) (upd H D (.lst []))) /\
 ∀i m ys σ' H,W i m ys σ' H->((kj K p).stop i H/\Qp H)\/((kj K p).go i H/\∃m',m' < m/\∀x H',(kj K p).mD i H x H'->dJ 0 x σ' H' λσ2 H2=>hV σ2 H2 λb H3 =>
  if b=true then ua (gL (gC 0) (gL (Fd) rM)) σ2 H3 λy H4=>H4 D=some (.lst ys)/\ys.length < sizeLine/\W (i+1) m' (ys++[y]) σ2 (upd H4 D (.lst (ys++[y]))) else W (i+1) m' ys σ2 H3):=by
 refine cH (xs:=zs.map V.str) (λi ys σ2 H2=>∃(ts:List Addr)(ps:List (Str×Addr)),ys=ts.map V.ref/\ts.length=i/\ps.map (·.1)=zs.take i/\Paired (λt (p:Str×Addr)=>aR K H2 t [.str p.1,.ref p.2]) ts ps /\
   (∀p∈ps,H2 p.2=some (.dK [])/\H p.2=none/\p.2≠D)/\(ps.map (·.2)).Nodup/\(∃y0,σ2=[y0])/\aB H H2/\H2 D=some (.lst ys))
  ⟨[],[],rfl,rfl,rfl,.nil,by simp,by simp,⟨none,rfl⟩,af hD _,ae⟩ (λi ys σ2 H2 _ h=>?_) (λi x ys σ2 H2 ex h=>?_) (λys σ2 H2 h=>?_)
 .obtain⟨_,_,_,_,_,_,_,_,_,sm,_⟩:=h;exact sm.seq hp
 .obtain⟨ts,ps,rfl,ht,hm,qy,hl,hn,⟨y0,rfl⟩,sm,hd⟩:=h;rw [bo] at ex;obtain⟨z,ez,rfl⟩:=cf.mp ex;have li:=(bj.mp ez).1;refine goN (yB ?_);refine⟨_,rfl,λl ui=>⟨oJ,λt jy=>?_⟩⟩;have M7:l≠D:=(az hd ui).symm;have nt:t≠l:=λe=>by rw [e,ae] at jy;cases jy
  have Q3:H2 t=none:=by rw [ai nt] at jy;exact jy
  have ntD:t≠D:=(az hd Q3).symm;have vZ:aB H2 (upd (upd H2 l (.dK [])) t (.tup [.str z,.ref l])):=(af ui _).trans (af jy _);have je:=vZ _ _ hd;have el:upd (upd H2 l (.dK [])) t (.tup [.str z,.ref l]) l=some (.dK []):=by rw [ai nt.symm,ae]
  have et:aR K (upd (upd H2 l (.dK [])) t (.tup [.str z,.ref l])) t [.str z,.ref l]:=aR.of ae;generalize upd (upd H2 l (.dK [])) t (.tup [.str z,.ref l])=H4 at vZ je el et;refine⟨je,bE (by rw [av];omega),ts++[t],ps++[(z,l)],by rw [bF];rfl,by rw [bp,ht];rfl,by rw [bF,hm,cP,ez];rfl,?_,?_,?_,⟨_,rfl⟩,?_,ae⟩
  .exact gW (Paired.eI qy λt' h' z=>aW je (vZ.tup z)) (aW je et)
  .intro p' pK;rcases cg.mp pK with h | h
   .obtain⟨a1,a2,a3⟩:=hl p' h;exact⟨by rw [ai a3];exact vZ _ _ a1,a2,a3⟩
   rw [bB.mp h];exact⟨by rw [ai M7];exact el,sm.free ui,M7⟩
  .rw [bF];refine j8.mpr ⟨hn,by simp,λa ha b hb e=>?_⟩;rw [o9,bB] at hb;obtain⟨p',pK,rfl⟩:=cx.mp ha;have:=(hl p' pK).1;rw [e,hb] at this;rw [show H2 l=none from ui] at this;cases this
  intro b o hb;rw [ai (λz=>by rw [z,hD] at hb;cases hb)];exact vZ _ _ (sm b o hb)
 obtain⟨ts,ps,rfl,ht,hm,qy,hl,hn,_,sm,hd⟩:=h;rw [av,cO] at hm;exact q ts ps H2 sm hd hm qy hl hn
def hZ {K:a8}{H:Hp}{D a C dx:Addr}{xs:List V}{fs:List (Str×V)}{o:HO}(hD:H D=some (.ins C dx fs))(h:aR K H a xs):aR K (upd H D o) a xs:=by
 rcases h with (h | ⟨u,h⟩) | h
 .exact .inl (.inl (by rw [ai (λz=>by rw [z,hD] at h;cases h)];exact h))
 .exact .inl (.inr ⟨u,by rw [ai (λz=>by rw [z,hD] at h;cases h)];exact h⟩)
 exact .inr h
def yO {K:a8}{H:Hp}{R D:Addr}{rs:List Addr}{es:List (Str×Nat)}{σ:St}{x1 x2:Str}{Qp:Hp->Prop}(hR:aG K H R (rs.map V.ref))(cS:Paired (λt (e:Str×Nat)=>aR K H t [.str e.1,.int (e.2:Int)]) rs es)(br:es.length<=1000)(hD:H D=none)
  (q:∀ts H2,aB H H2->H2 D=some (.lst (ts.map V.ref))->Paired (λt h=>aR K H2 t [.str h,.bl true]) ts (es.map (·.1))->Qp H2) :
  ∃W:Nat->Nat->List V->St->Hp->Prop,(∃m,W 0 m [] (dN [x1,x2] [] σ) (upd H D (.lst []))) /\
 ∀i m ys σ' H,W i m ys σ' H->((kj K R).stop i H/\Qp H)\/((kj K R).go i H/\∃m',m' < m/\∀x H',(kj K R).mD i H x H'->AW K 2 (jt (dJ 0) (jt (dJ 1) DR)) x σ' H' λσ2 H2=>hV σ2 H2 λb H3 =>
  if b=true then ua (gL (gC 0) (gL (tC (.bl true)) rM)) σ2 H3 λy H4=>H4 D=some (.lst ys)/\ys.length < sizeLine/\W (i+1) m' (ys++[y]) σ2 (upd H4 D (.lst (ys++[y]))) else W (i+1) m' ys σ2 H3):=by
 have ll:=a_ cS;refine cH (xs:=rs.map V.ref) (λi ys σ2 H2=>∃ts:List Addr,ys=ts.map V.ref/\ts.length=i/\Paired (λt h=>aR K H2 t [.str h,.bl true]) ts ((es.take i).map (·.1))/\(∃y0 y1,σ2=[y0,y1])/\aB H H2/\H2 D=some (.lst ys))
  ⟨[],rfl,rfl,.nil,⟨none,none,rfl⟩,af hD _,ae⟩ (λi ys σ2 H2 _ h=>?_) (λi x ys σ2 H2 ex h=>?_) (λys σ2 H2 h=>?_)
 .obtain⟨_,_,_,_,_,sm,_⟩:=h;exact sm.seq hR
 .obtain⟨ts,rfl,ht,hp,⟨y0,y1,rfl⟩,sm,hd⟩:=h;rw [bo] at ex;obtain⟨r,er,rfl⟩:=cf.mp ex;have lr:=(bj.mp er).1;obtain⟨ru,e1⟩:∃ru,es[i]?=some ru:=⟨es[i]'(by omega),b9 (by omega)⟩;obtain⟨r',RR,v1⟩:=Paired.at_ cS i ru e1;rw [er] at RR;cases RR;have li:=(bj.mp e1).1;refine⟨r,_,rfl,sm.tup v1,rfl,_,_,rfl,_,_,rfl,rfl,?_⟩;refine yB ?_;refine⟨_,rfl,oJ,λt jy=>⟨?_,bE (by rw [av];omega),ts++[t],?_,?_,?_,⟨_,_,rfl⟩,?_,ae⟩⟩
  .rw [ai (az hd jy)];exact hd
  .rw [bF];rfl
  .rw [bp,ht];rfl
  .rw [cP,e1,bF];have je:upd H2 t (.tup [.str ru.1,.bl true]) D=some (.lst (ts.map V.ref)):=by rw [ai (az hd jy)];exact hd
   exact gW (Paired.eI hp λt' h' z=>aW je ((af jy _).tup z)) (aW je (aR.of ae))
  intro b o hb;rw [ai (λz=>by rw [z,hD] at hb;cases hb)];exact af jy _ _ _ (sm b o hb)
 obtain⟨ts,rfl,ht,hp,_,sm,hd⟩:=h;rw [av,ll,cO] at hp;exact q ts H2 sm hd hp
end L2
namespace M11
open PySem L2
def xy.sub {aa:List au}{names:List Str}{b:Str->Bool}{cR:List Be}(h:xy aa names b cR):∀q∈gE cR,q.1∈aa.map (·.1)/\q.2∈aa.flatMap (·.2):=by
 induction h with
 | nil=>intro q hq;cases hq
 | @snoc cR k j ru z wd hb er ez _ hw _ ih =>
  intro q hq;unfold gE at hq;rw [bF] at hq;rcases cg.mp hq with hq | hq
  .exact ih q hq
  rw [o9,bB] at hq;rw [hq];have hm:=bZ er;refine⟨j9 hm,?_⟩;unfold qv at hw
  split at hw
  .exact(ih (z,wd) (AX.mp hw)).2
  rw [bB.mp hw];exact rh.mpr ⟨ru,hm,bZ ez⟩
def xy.nd {aa:List au}{names:List Str}{b:Str->Bool}{cR:List Be}(h:xy aa names b cR):(gE cR).Nodup:=by
 induction h with
 | nil=>exact kJ
 | @snoc cR k j ru z wd hb er ez _ hw hn ih =>
  unfold gE;rw [bF];refine j8.mpr ⟨ih,by simp,λx hx y hy e=>?_⟩;rw [o9,bB] at hy;rw [e,hy] at hx;exact hn hx
theorem x9 (m:List Str):∀l:List Str,(l.flatMap λn=>m.map λwd=>(n,wd)).length=l.length * m.length
 | []=>by simp
 | n::l=>by
  rw [vv,bp,x9 m l,av,dQ,Nat.add_mul];omega
def xy.len {aa:List au}{names:List Str}{b:Str->Bool}{cR:List Be}(h:xy aa names b cR)(hl:aa.length<=100)(h8:∀ru∈aa,ru.2.length<=8):cR.length<=80000:=by
 have h1:=gy (gE cR) ((aa.map (·.1)).flatMap λn=>(aa.flatMap (·.2)).map λwd=>(n,wd)) h.nd λq hq=>by
  obtain⟨a,c⟩:=h.sub q hq;exact rh.mpr ⟨q.1,a,cx.mpr ⟨q.2,c,rfl⟩⟩
 rw [x9] at h1;have h2:=gR.ju aa 100 hl h8;unfold gE at h1;rw [av,av] at h1;have h3:aa.length * (aa.flatMap (·.2)).length<=100 * 800:=Nat.mul_le_mul hl h2;omega
def KP (aa:List au) (names:List Str)(b:Str->Bool) (n:Nat)(cR:List Be):Prop:=∀k ru,k < n->aa[k]?=some ru->∀j z,j < DV b ru.2->ru.2[j]?=some z->∀wd∈qv names cR z,(ru.1,wd)∈gE cR
end M11
namespace gR
open PySem L2 M11
section
def BS (K:a8)(C:Addr):Sp:=λvs H Q _=>∃(H0:Hp)(a dx R:Addr)(rs:List Addr)(aa:List au),vs=[.ref a,.ref R]/\aB H0 H/\H0 a=none/\H a=some (.ins C dx [])/\aG K H0 R (rs.map V.ref)/\bI K H0 rs aa/\aa.length<=100/\(∀ru∈aa,ru.2.length<=8) /\
 ∀(e d bg:Addr)(kE:List (aL×V))(bx:List (Str×Nat))(ps:List (Str×Addr))(cR:List Be)(H':Hp),uu K C H0 H' a e d bg kE bx ps cR->ps.map (·.1)=hd aa->xq aa bx->zg aa aa.length bx->(∀z,(bf kE (Sum.inr z)).isSome=decide (z∈bx.map (·.1))) ->
  xy aa (hd aa) (λz=>decide (z∈bx.map (·.1))) cR->KP aa (hd aa) (λz=>decide (z∈bx.map (·.1))) aa.length cR->Q .eU H'
def nU:aI ["self","rules","number","many","rule"] ["self","rules"] (ay z9):=iS rfl rfl rfl rfl (by decide +kernel)
def Gz {C fF:Addr}{fdF:FuncData}(F:ix K "__init__" "BeginTable.__init__" z9 f fd)(T:Txt mg)(B:BC K C)(GE:aE P w K mg base 1 "found_empties" ["rules"] (pq K))(GH:aE P w K mg base 1 "heads_of" ["rules"] (jF K))
  (FF:bQ P w K mg base fX 2 fF fdF ["self","number","rule"] (Fp K C))(MF:Meth K C "find_begins" fF)(BF:Binds K fdF ["self","number","rule"] []):bQ P w K mg base fX 3 f fd ["self","rules"] (BS K C):=by
 refine F.ok nU (λvs H Q E h=>?_) (λeJ A outer s H vs Q E hr h=>?_)
 .obtain⟨H0,a,dx,R,rs,aa,rfl,_⟩:=h;rfl
 obtain⟨H0,a,dx,R,rs,aa,rfl,s0,f0,ea,hR,cS,br,h8,q⟩:=h;refine⟨_,aj (gM (pv 0) (bc (GE.mono (by decide:1<=2)) hr rfl (ab (pv 1) ah)) rfl)
  (aj (gM (pv 0) (aV (dO rfl) rfl T.A_ fM (ab (ba ["name","number"] [] rfl (aX (eZ (pv 0) rfl)) (a9 rfl rfl) (by decide +kernel) rfl (by decide +kernel)
   (λ_ _ _ _ _=>fc (n:=2) K rfl (aA (ao (i:=0) (show (["name","number"]:List Str).Nodup by decide +kernel) rfl (bA rfl)) (aA (ao (i:=1) (show (["name","number"]:List Str).Nodup by decide +kernel) rfl (bA rfl)) bU))) (λ_ _ _ _ _=>bO)
   (λ_ _ _ _ _=>bR (ab (pv 0) (ab dU ah)))) ah)) rfl)
  (aj (gM (pv 0) (bz ah) rfl)
  (aj (gM (pv 0) (aV (dO rfl) rfl T.A_ fM (ab (ba ["name"] [] rfl (aX (bc (GH.mono (by decide:1<=2)) hr rfl (ab (pv 1) ah))) (a9 rfl rfl) (by decide +kernel) rfl (by decide +kernel)
   (λ_ _ _ _ _=>ao (i:=0) (show (["name"]:List Str).Nodup by decide +kernel) rfl (bA rfl)) (λ_ _ _ _ _=>bO)
   (λ_ _ _ _ _=>bR (ab (pv 0) (ab gP ah)))) ah)) rfl)
  (aj (aC (i:=3) nU.nd rfl (bA rfl) (lZ i_ ar))
  (ak (kZ b8 (bw qg (pv 3) (aF aK rfl T.len dI (ab (eZ (pv 0) rfl) ah)) (bV _))
   (aj (aC (i:=3) nU.nd rfl (bA rfl) (aF aK rfl T.len dI (ab (eZ (pv 0) rfl) ah)))
   (ak (bJ b8 rfl (nZ rfl T.Kk (ab (pv 1) ah)) (gO rfl (aA (ao (i:=2) nU.nd rfl (bA rfl)) (aA (ao (i:=4) nU.nd rfl (bA rfl)) bU)))
    (ak (cA (B9 (pv 0) B.cls MF FF hr BF .nil uI (ab (pv 2) (ab (pv 4) ah)))))))))))))),?_⟩
 nofun
 have ll:=a_ cS;refine⟨_,rfl,R,rs,aa,rfl,s0.seq hR,cS.same s0,by omega,h8,λD1 CM bx H1 f1 s1 e1 w1 emp Ed=>?_⟩;have Km:=s1 _ _ ea;refine⟨_,rfl,a,C,dx,[],rfl,Km,B.cls,B.a1,(by show 0 < 1000;decide),?_⟩;have e2:upd H1 a (.ins C dx (dS "empties" (.ref D1) [])) D1=some (.lst (CM.map V.ref)):=by rw [ai (λz=>by rw [z,Km] at e1;cases e1)];exact e1
 have w2:pT K (upd H1 a (.ins C dx (dS "empties" (.ref D1) []))) CM bx:=w1.keep λ_ _ z=>hZ Km z;have FN:aB H0 (upd H1 a (.ins C dx (dS "empties" (.ref D1) []))):=λc o hc=>by rw [ai (λz=>by rw [z,f0] at hc;cases hc)];exact s1 _ _ (s0 c o hc)
 have R6:upd H1 a (.ins C dx (dS "empties" (.ref D1) [])) a=some (.ins C dx (dS "empties" (.ref D1) [])):=ae;generalize upd H1 a (.ins C dx (dS "empties" (.ref D1) []))=H2 at e2 w2 FN R6;have lets:=emp.len;refine⟨_,rfl,a,C,dx,_,_,rfl,R6,B.cls,B.a1,rfl,D1,rfl,⟨_,aG.of e2⟩,λD2 i4=>yO (aG.of e2) w2 (by omega) i4 λxr H3 s3 e3 p3=>?_⟩;have kp:Paired (λt (kv:aL×V)=>aR K H3 t [kV kv.1,kv.2]) xr ((bx.map (·.1)).map λh=>((Sum.inr h:aL),V.bl true)):=cq p3 λ_ _ z=>z;refine⟨D2,xr,_,rfl,e3,kp,λe he=>?_⟩;have Du:∀z,(bf (c_ ((bx.map (·.1)).map λh=>((Sum.inr h:aL),V.bl true)) []) (Sum.inr z)).isSome=decide (z∈bx.map (·.1)):=λz=>by
  rw [ny];by_cases c:z∈bx.map (·.1)
  .rw [ax c,bM c];rfl
  rw [aw c,cU c];rfl
 generalize c_ ((bx.map (·.1)).map λh=>((Sum.inr h:aL),V.bl true)) []=kE at Du;have xY:=(FN.trans s3).trans (af he (.dK kE));have Od:=af he (.dK kE) _ _ (s3 _ _ R6);have T_:upd H3 e (.dK kE) e=some (.dK kE):=ae;have CS:aB H2 (upd H3 e (.dK kE)):=s3.trans (af he (.dK kE));generalize upd H3 e (.dK kE)=H4 at xY Od T_ CS;have XX:=CS _ _ e2;have wE4:pT K H4 CM bx:=w2.keep λ_ _ z=>CS.tup z;refine⟨_,rfl,a,C,dx,_,rfl,Od,B.cls,B.a2,(by show 1 < 1000;decide),?_⟩;generalize WT:dS "empty" (.ref e) (dS "empties" (.ref D1) [])=Lw;have RX:upd H4 a (.ins C dx Lw) e=some (.dK kE):=by rw [ai (λz=>by rw [z,Od] at T_;cases T_)];exact T_
 have BZ:aB H0 (upd H4 a (.ins C dx Lw)):=λc o hc=>by rw [ai (λz=>by rw [z,f0] at hc;cases hc)];exact xY c o hc
 have ea5:upd H4 a (.ins C dx Lw) a=some (.ins C dx Lw):=ae;have XW:upd H4 a (.ins C dx Lw) D1=some (.lst (CM.map V.ref)):=by rw [ai (λz=>by rw [z,Od] at XX;cases XX)];exact XX
 have YF:pT K (upd H4 a (.ins C dx Lw)) CM bx:=wE4.keep λ_ _ z=>hZ Od z;generalize upd H4 a (.ins C dx Lw)=H5 at RX BZ ea5 XW YF;refine⟨rJ,λbg NK=>?_⟩;have fbg:H0 bg=none:=BZ.free NK;have Ub:upd H5 bg (.lst []) bg=some (.lst []):=ae;have FK:=BZ.trans (af NK (.lst []));have Oa:=af NK (.lst []) _ _ RX;have IW:=af NK (.lst []) _ _ ea5;have VL:D1≠bg:=az XW NK;have Uj:=af NK (.lst []) _ _ XW;have YE:pT K (upd H5 bg (.lst [])) CM bx:=YF.keep λ_ _ z=>(af NK (.lst [])).tup z;generalize upd H5 bg (.lst [])=H6 at Ub FK Oa IW Uj YE;refine⟨_,rfl,a,C,dx,_,rfl,IW,B.cls,B.a3,(by rw [<-WT];show 2 < 1000;decide),?_⟩;generalize Z2:dS "begins" (.ref bg) Lw=Kg;have N_:upd H6 a (.ins C dx Kg) e=some (.dK kE):=by rw [ai (λz=>by rw [z,IW] at Oa;cases Oa)];exact Oa
 have eb7:upd H6 a (.ins C dx Kg) bg=some (.lst []):=by rw [ai (λz=>by rw [z,IW] at Ub;cases Ub)];exact Ub
 have IE:aB H0 (upd H6 a (.ins C dx Kg)):=λc o hc=>by rw [ai (λz=>by rw [z,f0] at hc;cases hc)];exact FK c o hc
 have ea7:upd H6 a (.ins C dx Kg) a=some (.ins C dx Kg):=ae;have dE7:upd H6 a (.ins C dx Kg) D1=some (.lst (CM.map V.ref)):=by rw [ai (λz=>by rw [z,IW] at Uj;cases Uj)];exact Uj
 have YD:pT K (upd H6 a (.ins C dx Kg)) CM bx:=YE.keep λ_ _ z=>hZ IW z;generalize upd H6 a (.ins C dx Kg)=H7 at N_ eb7 IE ea7 dE7 YD;refine⟨_,rfl,R,rs,aa,rfl,IE.seq hR,cS.same IE,by omega,λD4 H8 f8 s8 e8=>?_⟩;have JX:=iD (aa.map (·.1)) [];simp only [iW,av] at JX;refine⟨D4,rfl,⟨_,aG.of e8⟩,λD5 Lv=>yP (aG.of e8) (by omega) Lv λts ps H9 s9 e9 m9 p9 l9 n9=>?_⟩;have n1:(ps.map (·.1)).Nodup:=by rw [m9];exact pQ _ kJ
 have DA:Paired (λt (kv:aL×V)=>aR K H9 t [kV kv.1,kv.2]) ts (ps.map jx):=cq p9 λ_ _ z=>z;refine⟨D5,ts,_,rfl,e9,DA,λd tZ=>?_⟩;have RT:c_ (ps.map jx) []=ps.map jx:=oz _ [] (by
  rw [kQ,n6];exact wJ n1)
 rw [RT];have OH:=s8.trans s9;have sd:=af tZ (.dK (ps.map jx));have z_:=OH.trans sd;have qB:upd H9 d (.dK (ps.map jx)) d=some (.dK (ps.map jx)):=ae;have M_:∀p∈ps,upd H9 d (.dK (ps.map jx)) p.2=some (.dK [])/\p.2≠d:=λp hp=>⟨sd _ _ (l9 p hp).1,λz=>by have:=(l9 p hp).1;rw [z,tZ] at this;cases this⟩;generalize upd H9 d (.dK (ps.map jx))=zz at z_ qB M_;have A6:=z_ _ _ ea7;have w_:=z_ _ _ N_;have Oc:=z_ _ _ eb7;have Vf:=IE.trans z_;have Oq:=z_ _ _ dE7;have UI:pT K zz CM bx:=YD.keep λ_ _ z=>z_.tup z;refine⟨_,rfl,a,C,dx,_,rfl,A6,B.cls,B.a4,(by rw [<-Z2,<-WT];show 3 < 1000;decide),?_⟩;have fp:∀p∈ps,H0 p.2=none/\p.2≠e:=λp hp=>by
  have h8':H8 p.2=none:=(l9 p hp).2.1;refine⟨(IE.trans s8).free h8',λz=>?_⟩;have:=s8 _ _ N_;rw [<-z,h8'] at this;cases this
 have hfs:∃fs,dS "firsts" (.ref d) Kg=fs/\fs.lookup ("empty":Str)=some (.ref e)/\fs.lookup ("begins":Str)=some (.ref bg)/\fs.lookup ("firsts":Str)=some (.ref d)/\fs.lookup ("find_begins":Str)=none/\fs.lookup ("words_of_part":Str)=none/\fs.lookup ("empties":Str)=some (.ref D1):=by
  refine⟨_,rfl,?_⟩;rw [<-Z2,<-WT];refine⟨?_,?_,?_,?_,?_,?_⟩ <;> rfl
 obtain⟨fs,efs,k1,k2,k3,k4,k5,k6⟩:=hfs;rw [efs];have E3:uu K C H0 (upd zz a (.ins C dx fs)) a e d bg kE bx ps []:=by
  refine⟨λc o hc=>by rw [ai (λz=>by rw [z,f0] at hc;cases hc)];exact Vf c o hc,⟨dx,fs,ae,k1,k2,k3,k4,k5⟩,?_,?_,n1,n9,λp hp=>⟨⟨[],?_,rfl⟩,(fp p hp).1,(fp p hp).2,(M_ p hp).2⟩,⟨[],?_,.nil⟩,fbg,⟨D1,CM,⟨dx,fs,ae,k6⟩,by rw [ai (λz=>by rw [z,A6] at Oq;cases Oq)];exact Oq,UI.keep λ_ _ z=>hZ A6 z,VL⟩⟩
  .rw [ai (λz=>by rw [z,A6] at w_;cases w_)];exact w_
  .rw [ai (λz=>by rw [z,A6] at qB;cases qB)];exact qB
  .have:=(M_ p hp).1;rw [ai (λz=>by rw [z,A6] at this;cases this)];exact this
  rw [ai (λz=>by rw [z,A6] at Oc;cases Oc)];exact Oc
 generalize upd zz a (.ins C dx fs)=zd at E3;have eb:(λz=>(bf kE (Sum.inr z)).isSome)=λz=>decide (z∈bx.map (·.1)):=funext Du;refine⟨1,rfl,?_⟩;refine⟨λmm σ vk=>∃(cR:List Be) (many:Int)(y2 y4:Option V),σ=[aM a,aM R,y2,some (.int many),y4]/\uu K C H0 vk a e d bg kE bx ps cR/\xy aa (hd aa) (λz=>decide (z∈bx.map (·.1))) cR/\-1<=many/\many<=cR.length /\
  (many=cR.length->KP aa (hd aa) (λz=>decide (z∈bx.map (·.1))) aa.length cR)/\(mm:Int)=80001 - many,⟨80002,[],-1,none,none,rfl,E3,.nil,by omega,by simp,by simp,by omega⟩,?_⟩
 rintro mm σ vk ⟨cR,many,y2,y4,rfl,Jc,Ow,b1,b2,cl,em⟩;obtain⟨Ug,uk,q1,q2,q3,q4,q5,q6⟩:=Jc.ia;obtain⟨tb,IP,NO⟩:=Jc.lb;have lb:=a_ NO;have Nd:=Ow.len br h8;refine⟨_,rfl,_,rfl,a,C,Ug,uk,_,rfl,q1,B.cls,B.a3,q3,bg,_,rfl,.inl (aG.of IP),_,_,rfl,rfl,_,rfl,?_⟩;refine cD (λc=>?_) (λc=>?_)
 .have c':=dw c;rw [av,lb] at c';refine⟨λσ t_=>∃(d7:List Be)(y2 y4:Option V),σ=[aM a,aM R,y2,some (.int (cR.length:Int)),y4]/\uu K C H0 t_ a e d bg kE bx ps d7/\xy aa (hd aa) (λz=>decide (z∈bx.map (·.1))) d7/\cR.length<=d7.length /\
   (d7.length=cR.length->d7=cR/\KP aa (hd aa) (λz=>decide (z∈bx.map (·.1))) aa.length cR),?_,?_⟩
  .rintro σ t_ ⟨d7,y2,y4,rfl,Ip,EA,Tg,Ja⟩;have:=EA.len br h8;refine⟨(80001 - cR.length:Int).toNat,by omega,d7,_,_,_,rfl,Ip,EA,by omega,by omega,λz=>?_,by omega⟩;obtain⟨Ko,Eg⟩:=Ja (by omega);rw [Ko];exact Eg
  refine⟨_,rfl,a,C,Ug,uk,_,rfl,q1,B.cls,B.a3,q3,bg,_,rfl,.inl (aG.of IP),?_⟩;rw [av,lb];refine⟨_,rfl,R,_,rfl,Jc.sm.seq hR,?_⟩;refine lF (xs:=rs.map V.ref) (λi σ t_=>∃(d7:List Be)(y2 y4:Option V),σ=[aM a,aM R,y2,some (.int (cR.length:Int)),y4]/\uu K C H0 t_ a e d bg kE bx ps d7/\xy aa (hd aa) (λz=>decide (z∈bx.map (·.1))) d7/\cR.length<=d7.length /\
   (d7.length=cR.length->d7=cR/\KP aa (hd aa) (λz=>decide (z∈bx.map (·.1))) i cR)) ⟨cR,_,_,rfl,Jc,Ow,aD _,λ_=>⟨rfl,λk ru hk=>by omega⟩⟩ ?_ ?_ ?_
  .rintro i σ t_ _ ⟨d7,y2,y4,rfl,Ip,_⟩;exact Ip.sm.seq hR
  .rintro i x σ t_ t ex ⟨d7,y2,y4,rfl,Ip,EA,Tg,Ja⟩ ht
   ac_nf0
   rw [bo] at ex;obtain⟨r,er,rfl⟩:=cf.mp ex;obtain⟨ru,s_,rv⟩:=cS.get er;have jT:=bZ s_;have Sn:=Ip.same (af ht (.tup [.int (i:Int),.ref r]));have QX:aR K (upd t_ t (.tup [.int (i:Int),.ref r])) t [.int (i:Int),.ref r]:=aR.of ae;generalize upd t_ t (.tup [.int (i:Int),.ref r])=Ut at Sn QX;obtain⟨dx4,OY,r1,r2,r3,r4,r5,r6⟩:=Sn.ia;refine⟨t,_,rfl,QX,rfl,_,_,rfl,_,_,rfl,rfl,?_⟩;refine⟨_,rfl,a,dx4,OY,rfl,r1,r5,_,rfl,_,rfl,H0,a,e,d,bg,r,kE,bx,ps,d7,i,ru,aa,rfl,Sn,rv,s_,h8 ru jT,by rw [m9];exact(hU _ _ _).mpr (.inr (j9 jT)),?_,?_,?_⟩
   .intro xi IQ;have:=IQ.len br h8;omega
   .rw [m9,eb];exact EA
   rw [m9,eb];intro X8 H15 Yp X7 l15 X4;refine⟨X8,_,_,rfl,Yp,X7,by omega,λhl3=>?_⟩;obtain⟨x1,x2⟩:=Ja (by omega);obtain⟨x3,x4⟩:=X4 (by omega);refine⟨x3.trans x1,λk CY hk Xq j z hj ez wd hw=>?_⟩;by_cases ck:k < i
   .exact x2 k CY ck Xq j z hj ez wd hw
   have:k=i:=by omega
   subst this;rw [s_] at Xq;cases Xq;rw [<-x1] at hw ⊢;exact x4 j z hj ez wd hw
  rintro σ t_ ⟨d7,y2,y4,rfl,Ip,EA,Tg,Ja⟩;rw [av,ll] at Ja;exact⟨d7,_,_,rfl,Ip,EA,Tg,Ja⟩
 have c':=of_decide_eq_false (ro.mpr c);rw [av,lb] at c';exact q e d bg kE bx ps cR vk Jc m9 emp Ed Du Ow (cl (by omega))
end
end gR
namespace L2
open PySem PySem.W
section
variable {X:Cx}{ag:List (Addr×Obj)}{σ:St}{H:Hp}{s:Shared}{a:Addr}{kvs:List (aL×V)}{k:aL}{u:Value}{A:Around}{E:Value->Shared->Prop}
def Om {z:V}{r:Value}{Q:Value->Shared->Prop}(I:Inv X ag σ H s)(e:H a=some (.dK kvs))(hl:kvs.length < sizeLine)(ry:RelV (kV k) u)(rz:RelV z r)
  (h1:∀v w' s',bf kvs k=some v->Inv X ag σ H s'->RelV v w'->Q w' s')(h2:bf kvs k=none->∀s',Inv X ag σ (upd H a (.dK (bK kvs k z))) s'->Q r s') :
  wpAny (model X.prog X.w) A (call (.builtin "dict.setdefault") [.ref a,u,r]) Q E s:=by
 obtain⟨zl,hd,vs,rel,dd⟩:=yI I.bY e;refine call_meetsIn PySem.F.slot_dict_setdefault dd.typeIs PySem.F.entry_dict_setdefault (PySem.F.args_dict_setdefault_3 _ _ _) (kt_meets_setdefault (bh X.prog X.w) a (l8 ry) hd r)
  ⟨vs,dd,by rw [<-rel.length];exact zl,λv hv=>?_,λhn h' IZ hs=>?_⟩
 .have rv:=rel.val k;rw [hv] at rv;cases e2:bf kvs k with
  | none=>rw [e2] at rv;cases rv
  | some x=>rw [e2] at rv;exact h1 x v _ e2 (I.tok _) rv
 have Hn:bf kvs k=none:=by
  have rv:=rel.val k;rw [hn] at rv;cases e2:bf kvs k with
  | none=>rfl
  | some x=>rw [e2] at rv;cases rv
 have he:∃q,h'.get? a=some q:=let ⟨q,_,_,hq,_⟩:=IZ;⟨q,hq⟩;exact h2 Hn _ (qO I (by rw [e];exact True.intro) hs he (tE (by have:=fK kvs k z;omega) hd (rel.put k rz) IZ))
end
section
variable {X:Cx}{o e f:Expr}{apos gT:Pos}{td ty tx:TE}
def Mj (td ty tx:TE):TE:=λσ H Q=>td σ H λx H1=>∃a,x=.ref a/\Us H1 a/\ty σ H1 λy H2=>tx σ H2 λz H3=>∃kvs k,H3 a=some (.dK kvs)/\y=kV k/\kvs.length < sizeLine /\
 (∀v,bf kvs k=some v->Q v H3)/\(bf kvs k=none->Q z (upd H3 a (.dK (bK kvs k z))))
def Gb (ho:PE X o td)(he:PE X e ty)(hf:PE X f tx)(m:M2 X o "setdefault" apos e f gT):PE X (.Call (.Attribute o "setdefault" apos) [e,f] [] gT) (Mj td ty tx):=by
 intro ag s σ H Q I h;refine wpAny_Call_method m.base m.A1 m.line zE PySem.F.slot_dict_setdefault PySem.F.type_dict_setdefault (cW (ho ag s σ H _ I h) λu s1 ⟨x,H1,I1,rx,a,ex,d,q1⟩=>?_);subst ex;obtain rfl:u=Value.ref a:=rx;obtain⟨t1,t2,_⟩:=AK I1 d;refine⟨t1,t2,?_⟩;rw [m.trees];refine rD rfl (vx (pY (cW (he ag s1 σ H1 _ I1 q1) λiv s2 ⟨y,H2,I2,ry,q2⟩ =>
  pY (cW (hf ag s2 σ H2 _ I2 q2) λfv s3 ⟨z,H3,I3,rz,kvs,k,ea,ey,hl,q3,q4⟩=>oW ?_))))
 subst ey;exact Om I3 ea hl ry rz (λv w' s4 l I4 Ab=>⟨v,_,I4,Ab,q3 v l⟩) λl s4 I4=>⟨z,_,I4,rz,q4 l⟩
end
end L2
namespace gR
open PySem L2 M11
section
def Qf {ps:List (Str×Addr)}(n1:(ps.map (·.1)).Nodup)(n2:(ps.map (·.2)).Nodup){p p':Str×Addr}(hp:p∈ps)(pK:p'∈ps)(z:p'≠p):p'.1≠p.1/\p'.2≠p.2:=by
 refine⟨λq=>z ?_,λq=>z ?_⟩
 .have w1:=gZ ps n1 p' pK;have w2:=gZ ps n1 p hp;rw [q,w2] at w1;injection w1 with w3;injection w3 with w4;exact Prod.ext q w4.symm
 obtain⟨i,hi,ei⟩:=qR.mp pK;obtain⟨j,hj,ej⟩:=qR.mp hp;have Kc:i=j:=by
  refine(vp (xs:=ps.map (·.2)) (h₀:=by simpa using hi) (h₁:=by simpa using hj) n2).mp ?_;rw [oY,oY,ei,ej];exact q
 subst Kc;exact ei.symm.trans ej
structure Jd (ps:List (Str×Addr))(st:Str->List Int)(H:Hp)(d:Addr):Prop where
 hd:H d=some (.dK (ps.map jx))
 n1:(ps.map (·.1)).Nodup
 n2:(ps.map (·.2)).Nodup
 lst:∀p∈ps,H p.2=some (.lst ((st p.1).map V.int))
def Jd.same {ps:List (Str×Addr)}{st:Str->List Int}{H H':Hp}{d:Addr}(h:Jd ps st H d)(s:aB H H'):Jd ps st H' d:=⟨s _ _ h.hd,h.n1,h.n2,λp hp=>s _ _ (h.lst p hp)⟩
def CA (st:Str->List Int)(n:Str) (k:Int):Str->List Int:=λz=>if z=n then st z++[k] else st z
def Jd.more {ps:List (Str×Addr)}{st:Str->List Int}{H:Hp}{d:Addr}(h:Jd ps st H d){p:Str×Addr}(hp:p∈ps) (k:Int):Jd ps (CA st p.1 k) (upd H p.2 (.lst ((st p.1).map V.int++[.int k]))) d:=by
 have a:=h.lst p hp;have nd:d≠p.2:=λz=>by have:=h.hd;rw [z,a] at this;cases this
 refine⟨by rw [ai nd];exact h.hd,h.n1,h.n2,λp' pK=>?_⟩;by_cases z:p'=p
 .rw [z,ae];have e1:CA st p.1 k p.1=st p.1++[k]:=ax rfl;rw [e1,bF];rfl
 obtain⟨a1,a2⟩:=Qf h.n1 h.n2 hp pK z;have e1:CA st p.1 k p'.1=st p'.1:=aw a1;rw [ai a2,e1];exact h.lst p' pK
def Fj (K:a8):Sp:=λvs H Q _=>∃(R:Addr)(rs:List Addr)(aa:List au),vs=[.ref R]/\aG K H R (rs.map V.ref)/\bI K H rs aa/\aa.length<=1000 /\
 ∀(d:Addr)(ps:List (Str×Addr))(H':Hp),H d=none->aB H H'->Jd ps (λn=>nums aa n aa.length) H' d->ps.map (·.1)=hd aa->(∀p∈ps,H p.2=none)->Q (.ref d) H'
def v8:aI ["rules","numbers","number","rule"] ["rules"] (ay Fy):=iS rfl rfl rfl rfl (by decide +kernel)
def JK (F:ix K "numbers_by_name" "numbers_by_name" Fy f fd)(T:Txt mg)(GH:aE P w K mg base 1 "heads_of" ["rules"] (jF K)):bQ P w K mg base fX 2 f fd ["rules"] (Fj K):=by
 refine F.ok v8 (λvs H Q E h=>?_) (λeJ A outer s H vs Q E hr h=>?_)
 .obtain⟨R,rs,aa,rfl,_⟩:=h;rfl
 obtain⟨R,rs,aa,rfl,hR,cS,br,q⟩:=h;have hu:=fV hr;refine⟨_,aj (aC (i:=1) v8.nd rfl (bA rfl) (aV (dO rfl) rfl T.A_ fM (ab
   (ba ["name"] [] rfl (aX (bc GH hr rfl (ab (pv 0) ah))) (a9 rfl rfl) (by decide +kernel) rfl (by decide +kernel)
    (λ_ _ _ _ _=>ao (i:=0) (show (["name"]:List Str).Nodup by decide +kernel) rfl (bA rfl)) (λ_ _ _ _ _=>bO)
    (λ_ _ _ _ _=>bR (ab (pv 0) (ab (bz ah) ah)))) ah)))
  (aj (bJ b8 rfl (nZ rfl T.Kk (ab (pv 0) ah)) (gO rfl (aA (ao (i:=2) v8.nd rfl (bA rfl)) (aA (ao (i:=3) v8.nd rfl (bA rfl)) bU)))
   (ak (cA (gQ fZ gJ gK bL (eG hu (pv 1) (aP bq (pv 3) ar (λ_ _=>rfl)) (λ_ _=>rfl)) (ab (pv 2) ah)))))
  (ak (aQ (pv 1)))),?_⟩
 nofun
 have ll:=a_ cS;refine⟨_,rfl,R,rs,aa,rfl,hR,cS,br,λD2 H3 f3 s3 e3=>?_⟩;have JX:=iD (aa.map (·.1)) [];simp only [iW,av] at JX;refine⟨D2,rfl,⟨_,aG.of e3⟩,λD3 yz=>tL (aG.of e3) (by omega) yz λts ps H4 s4 e4 m4 p4 l4 n4=>?_⟩;have n1:(ps.map (·.1)).Nodup:=by rw [m4];exact pQ _ kJ
 have DA:Paired (λt (kv:aL×V)=>aR K H4 t [kV kv.1,kv.2]) ts (ps.map jx):=cq p4 λ_ _ z=>z;refine⟨D3,ts,_,rfl,e4,DA,λd tZ=>?_⟩;have RT:c_ (ps.map jx) []=ps.map jx:=oz _ [] (by
  rw [kQ,n6];exact wJ n1)
 rw [RT];have s5:=(s3.trans s4).trans (af tZ (.dK (ps.map jx)));have tY:=af tZ (.dK (ps.map jx));have zx:H d=none:=(s3.trans s4).free tZ;have S5:Jd ps (λn=>nums aa n 0) (upd H4 d (.dK (ps.map jx))) d:=⟨ae,n1,n4,λp hp=>tY _ _ (l4 p hp).1⟩;have OZ:∀p∈ps,H p.2=none:=λp hp=>s3.free (l4 p hp).2.1;generalize upd H4 d (.dK (ps.map jx))=H5 at s5 S5;clear tY;refine⟨_,rfl,R,_,rfl,s5.seq hR,?_⟩;refine lF (xs:=rs.map V.ref) (λi σ H6=>∃(y2 y3:Option V),σ=[aM R,aM d,y2,y3]/\aB H H6/\Jd ps (λn=>nums aa n i) H6 d) ⟨none,none,rfl,s5,S5⟩ ?_ ?_ ?_
 .rintro i σ H6 _ ⟨y2,y3,rfl,s6,_⟩;exact s6.seq hR
 .rintro i x σ H6 t ex ⟨y2,y3,rfl,s6,S6⟩ ht
  ac_nf0
  rw [bo] at ex;obtain⟨r,er,rfl⟩:=cf.mp ex;obtain⟨ru,s_,p,v1,v2⟩:=cS.get er;have jT:=bZ s_;have li:=(bj.mp s_).1;have uG:=af ht (.tup [.int (i:Int),.ref r]);have Lo:aR K (upd H6 t (.tup [.int (i:Int),.ref r])) t [.int (i:Int),.ref r]:=aR.of ae;have s7:=s6.trans uG;have S7:=S6.same uG;generalize upd H6 t (.tup [.int (i:Int),.ref r])=H7 at Lo s7 S7;obtain⟨pn,yx,zy⟩:∃pn∈ps,pn.1=ru.1:=by
   have:ru.1∈ps.map (·.1):=by rw [m4];exact(hU _ _ _).mpr (.inr (j9 jT))
   obtain⟨pn,a,b⟩:=cx.mp this;exact⟨pn,a,b⟩
  have an:=S7.lst pn yx;have vn:=gZ ps n1 pn yx;rw [zy] at vn;have hg:bW H7 d (.str ru.1) (some (.ref pn.2)):=by
   have:=bW.k (k:=Sum.inr ru.1) S7.hd;rw [vn] at this;exact this
  have ln:=yi aa pn.1 i;refine⟨t,_,rfl,Lo,rfl,_,_,rfl,_,_,rfl,rfl,?_⟩;refine⟨_,rfl,_,rfl,r,_,_,_,rfl,rfl,s7.tup v1,rfl,d,_,rfl,hg,.inl ⟨rfl,_,aG.of an⟩,_,rfl,pn.2,_,_,rfl,rfl,an,bE (by rw [av];omega),?_⟩;have S8:=S7.more yx (i:Int);refine⟨_,_,rfl,λb o hb=>by rw [ai (λz=>by rw [z,OZ pn yx] at hb;cases hb)];exact s7 b o hb,S8.hd,S8.n1,S8.n2,λp' pK=>?_⟩;have:=S8.lst p' pK;rw [this]
  congr 3
  unfold CA;rw [Ds];by_cases c:p'.1=pn.1
  .rw [ax c,ax];unfold ON;rw [s_,c,zy];simp
  rw [aw c,aw,ir];unfold ON;rw [s_];intro z;have z2:=dw z;injection z2 with z3;exact c (by rw [zy];exact z3.symm)
 rintro σ H6 ⟨y2,y3,rfl,s6,S6⟩;rw [av,ll] at S6;exact⟨_,rfl,q d ps H6 zx s6 S6 m4 OZ⟩
def KY (K:a8):Sp:=λvs H Q _=>∃(R:Addr)(rs:List Addr)(aa:List au),vs=[.ref R]/\aG K H R (rs.map V.ref)/\bI K H rs aa/\aa.length<=1000/\(∀ru∈aa,ru.2.length<=8) /\
 ∀(d:Addr)(H':Hp),H d=none->aB H H'->Q (.ref d) H'
structure E2 (H0 H:Hp)(d:Addr)(kvs:List (aL×V)) (n:Nat):Prop where
 hd:H d=some (.dK kvs)
 ln:kvs.length<=n
 lst:∀kv∈kvs,∃a xs,kv.2=.ref a/\H a=some (.lst xs)/\H0 a=none/\xs.length<=n
def E2.same {H0 H H':Hp}{d:Addr}{kvs:List (aL×V)}{n:Nat}(h:E2 H0 H d kvs n)(s:aB H H'):E2 H0 H' d kvs n:=⟨s _ _ h.hd,h.ln,λkv hk=>let ⟨a,xs,e1,e2,e3,e4⟩:=h.lst kv hk;⟨a,xs,e1,s _ _ e2,e3,e4⟩⟩
def E2.more {H0 H:Hp}{d a:Addr}{kvs:List (aL×V)}{n:Nat}{xs:List V}{y:V}(h:E2 H0 H d kvs (n+1))(ha:H a=some (.lst xs))(lx:xs.length<=n)(l2:∀kv∈kvs,∃a xs,kv.2=.ref a/\H a=some (.lst xs)/\H0 a=none/\xs.length<=n):E2 H0 (upd H a (.lst (xs++[y]))) d kvs (n+1):=by
 have nd:d≠a:=λz=>by have:=h.hd;rw [z,ha] at this;cases this
 refine⟨by rw [ai nd];exact h.hd,h.ln,λkv hk=>?_⟩;obtain⟨b,ys,e1,e2,e3,e4⟩:=l2 kv hk;by_cases c:b=a
 .exact⟨b,xs++[y],e1,by rw [c,ae],e3,by rw [bp];simp;omega⟩
 exact⟨b,ys,e1,by rw [ai c];exact e2,e3,by omega⟩
def Md {kvs:List (aL×V)}{k:aL}{v:V}(h:bf kvs k=some v):∃kv∈kvs,kv.2=v:=by
 unfold bf at h;obtain⟨kv,e1,e2⟩:=cf.mp h;exact⟨kv,List.mem_of_find?_eq_some e1,e2⟩
def uE:aI ["rules","standings","number","rule","place","part"] ["rules"] (ay Mx):=iS rfl rfl rfl rfl (by decide +kernel)
def MZ (F:ix K "standings_by_part" "standings_by_part" Mx f fd)(T:Txt mg):bQ P w K mg base fX 1 f fd ["rules"] (KY K):=by
 refine F.ok uE (λvs H Q E h=>?_) (λeJ A outer s H vs Q E hr h=>?_)
 .obtain⟨R,rs,aa,rfl,_⟩:=h;rfl
 obtain⟨R,rs,aa,rfl,hR,cS,br,h8,q⟩:=h;have hu:=fV hr;refine⟨_,aj (aC (i:=1) uE.nd rfl (bA rfl) gP)
  (aj (bJ b8 rfl (nZ rfl T.Kk (ab (pv 0) ah)) (gO rfl (aA (ao (i:=2) uE.nd rfl (bA rfl)) (aA (ao (i:=3) uE.nd rfl (bA rfl)) bU)))
   (ak (bJ b8 rfl (nY rfl T.Kk (ab (aP bq (pv 3) ar (λ_ _=>rfl)) ah)) (gO rfl (aA (ao (i:=4) uE.nd rfl (bA rfl)) (aA (ao (i:=5) uE.nd rfl (bA rfl)) bU)))
    (ak (cA (gQ fZ gJ gK bL (Gb (pv 1) (pv 5) (bz ah) ⟨rfl,rfl,rfl,rfl⟩) (ab (bR (ab (pv 2) (ab (pv 4) ah))) ah)))))))
  (ak (aQ (pv 1)))),?_⟩
 nofun
 have ll:=a_ cS;intro d tZ;have s1:=af tZ (.dK []);have S1:E2 H (upd H d (.dK [])) d [] (8 * 0):=⟨ae,aD _,λkv hk=>by cases hk⟩;generalize upd H d (.dK [])=H1 at s1 S1;refine⟨_,rfl,R,_,rfl,s1.seq hR,?_⟩;refine lF (xs:=rs.map V.ref) (λi σ H6=>∃(kvs:List (aL×V))(y2 y3 y4 y5:Option V),σ=[aM R,aM d,y2,y3,y4,y5]/\aB H H6/\E2 H H6 d kvs (8 * i)) ⟨[],none,none,none,none,rfl,s1,S1⟩ ?_ ?_ ?_
 .rintro i σ H6 _ ⟨kvs,y2,y3,y4,y5,rfl,s6,_⟩;exact s6.seq hR
 .rintro i x σ H6 t ex ⟨kvs,y2,y3,y4,y5,rfl,s6,S6⟩ ht
  ac_nf0
  rw [bo] at ex;obtain⟨r,er,rfl⟩:=cf.mp ex;obtain⟨ru,s_,p,v1,v2⟩:=cS.get er;have jT:=bZ s_;have OW:=h8 ru jT;have li:=(bj.mp s_).1;have uG:=af ht (.tup [.int (i:Int),.ref r]);have Lo:aR K (upd H6 t (.tup [.int (i:Int),.ref r])) t [.int (i:Int),.ref r]:=aR.of ae;have s7:=s6.trans uG;have S7:=S6.same uG;generalize upd H6 t (.tup [.int (i:Int),.ref r])=H7 at Lo s7 S7;refine⟨t,_,rfl,Lo,rfl,_,_,rfl,_,_,rfl,rfl,?_⟩;refine⟨_,rfl,r,_,_,_,rfl,rfl,s7.tup v1,rfl,p,_,rfl,s7.tup v2,?_⟩;refine pM (xs:=ru.2.map V.str) (λj σ H9=>∃(kvs:List (aL×V))(y4 y5:Option V),σ=[aM R,aM d,some (.int (i:Int)),aM r,y4,y5]/\aB H H9/\E2 H H9 d kvs (8 * i+j)) ⟨kvs,_,_,rfl,s7,S7⟩ ?_ ?_ ?_
  .rintro j σ H9 _ ⟨kvs,y4,y5,rfl,s9,_⟩;exact s9.tup v2
  .rintro j x σ H9 t2 pN ⟨kvs,y4,y5,rfl,s9,S9⟩ jy
   ac_nf0
   rw [bo] at pN;obtain⟨z,ez,rfl⟩:=cf.mp pN;have lj:=(bj.mp ez).1;have xX:=af jy (.tup [.int (j:Int),.str z]);have Hh:aR K (upd H9 t2 (.tup [.int (j:Int),.str z])) t2 [.int (j:Int),.str z]:=aR.of ae;have ue:=s9.trans xX;have LW:=S9.same xX;generalize upd H9 t2 (.tup [.int (j:Int),.str z])=zz at Hh ue LW;refine⟨t2,_,rfl,Hh,rfl,_,_,rfl,_,_,rfl,rfl,?_⟩;have lk:=LW.ln;refine⟨_,rfl,d,rfl,.inl ⟨kvs,.inl LW.hd⟩,_,rfl,rJ,λl hl=>?_⟩;have FJ:=af hl (.lst []);have IY:upd zz l (.lst []) l=some (.lst []):=ae;have fl:H l=none:=ue.free hl;have E3:=LW.same FJ;have sA:=ue.trans FJ;generalize upd zz l (.lst [])=zd at FJ IY E3 sA;have fin:∀(a:Addr)(xs:List V)(mN:List (aL×V))(vk:Hp),vk a=some (.lst xs)->H a=none->xs.length<=8 * i+j->E2 H vk d mN (8 * i+j+1)->(∀kv∈mN,∃a xs,kv.2=.ref a/\vk a=some (.lst xs)/\H a=none/\xs.length<=8 * i+j)->aB H vk ->
     ∀t4,vk t4=none->xs.length < sizeLine/\∃(kvs:List (aL×V))(y4 y5:Option V),[some (V.ref R),aM d,some (.int (i:Int)),aM r,some (.int (j:Int)),some (.str z)]=[aM R,aM d,some (.int (i:Int)),aM r,y4,y5]/\aB H (upd (upd vk t4 (.tup [.int (i:Int),.int (j:Int)])) a (.lst (xs++[.ref t4])))/\E2 H (upd (upd vk t4 (.tup [.int (i:Int),.int (j:Int)])) a (.lst (xs++[.ref t4]))) d kvs (8 * i+(j+1)) :=
    λa xs mN vk ea fa lx Jc EL K3 t4 DE=>by
     have Aa:=af DE (.tup [.int (i:Int),.int (j:Int)]);refine⟨bE (by omega),mN,_,_,rfl,λb o hb=>by rw [ai (λz=>by rw [z,fa] at hb;cases hb)];exact Aa _ _ (K3 b o hb),?_⟩;exact(Jc.same Aa).more (Aa _ _ ea) lx λkv hk=>let ⟨b,ys,e1,e2,e3,e4⟩:=EL kv hk;⟨b,ys,e1,Aa _ _ e2,e3,e4⟩
   refine⟨kvs,Sum.inr z,E3.hd,rfl,bE (by omega),λv hv=>?_,λhn=>?_⟩
   .obtain⟨kv,hk,ek⟩:=Md hv;obtain⟨a,xs,e1,e2,e3,e4⟩:=E3.lst kv hk;rw [e1] at ek;subst ek;refine⟨.inl ⟨rfl,_,aG.of e2⟩,_,rfl,_,rfl,oJ,λt4 DE=>?_⟩;obtain⟨g1,g2⟩:=fin a xs kvs zd e2 e3 e4 ⟨E3.hd,by omega,λkv hk=>let ⟨b,ys,e1,e2,e3,e4⟩:=E3.lst kv hk;⟨b,ys,e1,e2,e3,by omega⟩⟩ E3.lst sA t4 DE;exact⟨a,_,_,rfl,rfl,af DE _ _ _ e2,g1,g2⟩
   have nd:d≠l:=λz=>by have:=E3.hd;rw [z,IY] at this;cases this
   have LJ:upd zd d (.dK (bK kvs (Sum.inr z) (.ref l))) l=some (.lst []):=by rw [ai nd.symm];exact IY
   have zx:H d=none:=tZ;have K3:aB H (upd zd d (.dK (bK kvs (Sum.inr z) (.ref l)))):=λb o hb=>by rw [ai (λz=>by rw [z,zx] at hb;cases hb)];exact sA b o hb
   have EL:∀kv∈bK kvs (Sum.inr z) (.ref l),∃a xs,kv.2=.ref a/\upd zd d (.dK (bK kvs (Sum.inr z) (.ref l))) a=some (.lst xs)/\H a=none/\xs.length<=8 * i+j:=λkv hk=>by
    rw [x8 _ hn] at hk;rcases cg.mp hk with h | h
    .obtain⟨b,ys,e1,e2,e3,e4⟩:=E3.lst kv h;exact⟨b,ys,e1,by rw [ai (λz=>by rw [z,E3.hd] at e2;cases e2)];exact e2,e3,e4⟩
    rw [bB.mp h];exact⟨l,[],rfl,LJ,fl,by simp⟩
   have lp:=fK kvs (Sum.inr z:aL) (.ref l);have Jc:E2 H (upd zd d (.dK (bK kvs (Sum.inr z) (.ref l)))) d (bK kvs (Sum.inr z) (.ref l)) (8 * i+j+1):=⟨ae,by omega,λkv hk=>let ⟨b,ys,e1,e2,e3,e4⟩:=EL kv hk;⟨b,ys,e1,e2,e3,by omega⟩⟩;generalize upd zd d (.dK (bK kvs (Sum.inr z) (.ref l)))=vk at LJ K3 EL Jc;refine⟨.inl ⟨rfl,_,aG.of LJ⟩,_,rfl,_,rfl,oJ,λt4 DE=>?_⟩;obtain⟨g1,g2⟩:=fin l [] _ vk LJ fl (by simp) Jc EL K3 t4 DE;exact⟨l,_,_,rfl,rfl,af DE _ _ _ LJ,g1,g2⟩
  rintro σ H9 ⟨kvs,y4,y5,rfl,s9,S9⟩;rw [av] at S9;refine⟨kvs,_,_,_,_,rfl,s9,S9.hd,by have:=S9.ln;omega,λkv hk=>let ⟨b,ys,e1,e2,e3,e4⟩:=S9.lst kv hk;⟨b,ys,e1,e2,e3,by omega⟩⟩
 rintro σ H6 ⟨kvs,y2,y3,y4,y5,rfl,s6,S6⟩;exact⟨_,rfl,q d H6 tZ s6⟩
end
end gR
namespace L2
open PySem PySem.Spec PyProof.Rows
open PySem
def gk {X:Cx}(K:a8)(hK:X.K=K:=by rfl):kx X (compareOp .In) (SW K false):=by
 subst hK;exact pF
def Pm (K:a8)(H:Hp):Nat->V->V->Prop
 | 0,x,y=>x=y/\tT x
 | n+1,x,y=>(x=y/\tT x)\/∃a b xs ys,x=.ref a/\y=.ref b/\((aG K H a xs/\aG K H b ys)\/(aR K H a xs/\aR K H b ys))/\Paired (Pm K H n) xs ys
def Pm.self {K:a8}{H:Hp}{x:V}(h:tT x):∀n,Pm K H n x x
 | 0=>⟨rfl,h⟩
 | _+1=>.inl ⟨rfl,h⟩
def pP {A:Around}{s:Shared}{F:V->V->Prop}{xs ys:List V}{aN d6:List Value}(r:aY xs aN)(r2:aY ys d6)(p:Paired F xs ys)(hF:∀x y u v,F x y->RelV x u->RelV y v->SeqAt.EqAt A s u v true) (j:Nat)(h1:j < aN.toArray.size)(h2:j < d6.toArray.size) :
  SeqAt.EqAt A s aN.toArray[j] d6.toArray[j] true:=by
 have l1:=r.length;have l2:=r2.length;have k1:j < aN.length:=by simpa using h1
 have k2:j < d6.length:=by simpa using h2
 have g2:ys[j]?=some (ys[j]'(by omega)):=b9 (by omega);obtain⟨x,g1,fx⟩:=Paired.at_ p j _ g2;obtain⟨u1,e1,q1⟩:=r.get g1;obtain⟨u2,e2,q2⟩:=r2.get g2;have f1:aN.toArray[j]=u1:=by
  have:=(bj.mp e1).2;simpa using this
 have f2:d6.toArray[j]=u2:=by
  have:=(bj.mp e2).2;simpa using this
 rw [f1,f2];exact hF _ _ _ _ fx q1 q2
theorem A8 {X:Cx}{ag:List (Addr×Obj)}{σ:St}{H:Hp}{s:Shared}(I:Inv X ag σ H s):∀(n:Nat)(A:Around)(x y:V)(u v:Value),Pm X.K H n x y->RelV x u->RelV y v->A.units+n < cLine->SeqAt.EqAt A s u v true
 | 0,A,x,y,u,v,⟨e,h⟩,ru,rv,_=>by subst e;exact tq h ru rv
 | n+1,A,x,y,u,v,.inl ⟨e,h⟩,ru,rv,_=>by subst e;exact tq h ru rv
 | n+1,A,x,y,u,v,.inr ⟨a,b,xs,ys,ex,ey,hs,p⟩,ru,rv,hu=>by
  subst ex;subst ey;cases (show u=Value.ref a from ru);cases (show v=Value.ref b from rv);by_cases e:a=b
  .subst e;exact .same _
  refine .of_refs e ?_;have lp:=a_ p;rcases hs with ⟨ha,hb⟩ | ⟨ha,hb⟩
  .obtain⟨aN,r,pl,_⟩:=I.list ha;obtain⟨d6,r2,zp,_⟩:=I.list hb;have l1:=r.length;have l2:=r2.length;have q:=SeqAt.RcAt.lists (A:=A) (s:=s) (e:=λ_=>true) pl.isList zp.isList (by simp only [bN];omega) (by omega) (λj h1 h2=>pP r r2 p (λx y u v d r1 r2=>A8 I n A.in1 x y u v d r1 r2 (by rw [q8];omega)) j h1 h2);have e:((List.range aN.toArray.size).all λ_=>true)=true:=by simp
   rw [e] at q;exact q
  obtain⟨aN,r,pl,_⟩:=I.tuple ha;obtain⟨d6,r2,zp,_⟩:=I.tuple hb;have l1:=r.length;have l2:=r2.length;have q:=SeqAt.RcAt.tuples (A:=A) (s:=s) (e:=λ_=>true) pl zp (by omega) (λj h1 h2=>pP r r2 p (λx y u v d r1 r2=>A8 I n A.in1 x y u v d r1 r2 (by rw [q8];omega)) j h1 h2);have e1:((List.range (min aN.toArray.size d6.toArray.size)).all (λ_=>true) && aN.toArray.size == d6.toArray.size)=true:=by
   have:aN.toArray.size=d6.toArray.size:=by simp only [bN];omega
   rw [this];simp
  rw [e1] at q;exact q
def Qc (K:a8)(b:Bool) (n:Nat):V->V->Hp->VK->Prop:=λx y H Q=>∃p q xs ys,x=.ref p/\y=.ref q/\aG K H p xs/\aG K H q ys/\Paired (Pm K H n) xs ys/\Q (.bl b) H
def An {X:Cx}(n:Nat)(hu:X.A.units+(n+1) < cLine):kx X (compareOp .NotEq) (Qc X.K false n):=by
 intro ag s σ H x y v u Q I rx ry h;obtain⟨a,b,xs,ys,rfl,rfl,ha,hb,p,q⟩:=h;cases rx;cases ry;obtain⟨aN,r,pl,hz⟩:=I.list ha;obtain⟨d6,r2,zp,We⟩:=I.list hb;have l1:=r.length;have l2:=r2.length;have lp:=a_ p;refine SeqAt.RcNeAt.lists (e:=λ_=>true) pl.isList zp.isList (by simp only [bN];omega) (by omega) (λj h1 h2=>pP r r2 p (λx y u v d r1 r2=>A8 I n X.A.in1 x y u v d r1 r2 (by rw [q8];omega)) j h1 h2) X.prog X.w X.xe _ ?_;have e:(!(List.range aN.toArray.size).all λ_=>true)=false:=by simp
 rw [e];exact⟨.bl false,H,I,rfl,q⟩
section
variable {prog:Program}{w:World}{A:Around}{E:Value->Shared->Prop}{s:Shared}
abbrev Iy (h:Heap)(z:Addr)(f0 f1:Value)(TI TO:Addr):Prop:=h.get? z=some { cls:=.type "zip",data:=.fields #[f0,f1,.bool false,.ref TI,.ref TO] }
end
structure Ym (h:Heap)(z TI TO i1 i2 l1 l2:Addr)(xs ys:Array Value) (i:Nat):Prop where
 hz:∃f0 f1,Iy h z f0 f1 TI TO/\(f0=.none\/∃T:Nat,f0=rawInt T)
 hI:IsPair h TI (.ref i1) (.ref i2)
 hO:∃a b,IsPair h TO a b
 h1:h.IsTupleIter i1 l1 i
 h2:h.IsTupleIter i2 l2 i
 t1:h.IsTuple l1 xs
 t2:h.IsTuple l2 ys
def xG {h h':Heap}{l:Addr}{xs:Array Value}(t:h.IsTuple l xs)(k:∀o,h.get? l=some o->h'.get? l=some o):h'.IsTuple l xs:=by
 obtain⟨o,a,b,c⟩:=t;exact⟨o,k o a,b,c⟩
def vm (h:Heap) (N:Nat)(xs ys bH:Array Value):Prop:=∃Ts:List Nat,bH.toList=Ts.map Value.ref/\Ts.Pairwise (· < ·)/\∀(j T:Nat),Ts[j]?=some T->N<=T/\∃x y:Value,IsPair h T x y/\xs[j]?=some x/\ys[j]?=some y
def vm.keep {h h':Heap}{N:Nat}{xs ys bH:Array Value}(a:vm h N xs ys bH)(k:∀(T:Nat) o,N<=T->h.get? T=some o->h'.get? T=some o):vm h' N xs ys bH:=by
 obtain⟨Ts,e1,e2,e3⟩:=a;refine⟨Ts,e1,e2,λj T hj=>?_⟩;obtain⟨l,x,y,p,q⟩:=e3 j T hj;exact⟨l,x,y,k T _ l p,q⟩
def vm.more {h:Heap}{N T0:Nat}{xs ys bH:Array Value}{x y:Value}(a:vm h N xs ys bH)(lt:∀(Ts:List Nat),bH.toList=Ts.map Value.ref->∀T∈Ts,T < T0)(hN:N<=T0)(p:IsPair h T0 x y)(hx:xs[bH.size]?=some x)(hy:ys[bH.size]?=some y):vm h N xs ys (bH.push (.ref T0)):=by
 obtain⟨Ts,e1,e2,e3⟩:=a;have el:Ts.length=bH.size:=by
  have:=congrArg List.length e1;rw [av] at this;rw [<-this];simp
 refine⟨Ts++[T0],by rw [Array.toList_push,e1,bF];rfl,List.pairwise_append.mpr ⟨e2,by simp,λT hT b hb=>by rw [bB.mp hb];exact lt Ts e1 T hT⟩,λj T hj=>?_⟩;by_cases c:j < Ts.length
 .rw [qb c] at hj;exact e3 j T hj
 rw [nu (by omega)] at hj;have c2:j - Ts.length=0:=by
  have:=(bj.mp hj).1;simp at this;omega
 rw [c2] at hj;cases hj;have:j=bH.size:=by omega
 rw [this];exact⟨hN,x,y,p,hx,hy⟩
def Ym.keep {h h':Heap}{z TI TO i1 i2 l1 l2:Addr}{xs ys:Array Value}{i:Nat}(st:Ym h z TI TO i1 i2 l1 l2 xs ys i)(k:∀b o,h.get? b=some o->h'.get? b=some o):Ym h' z TI TO i1 i2 l1 l2 xs ys i:=by
 obtain⟨⟨f0,f1,a,b⟩,hI,⟨c,d,hO⟩,h1,h2,t1,t2⟩:=st;exact⟨⟨f0,f1,k _ _ a,b⟩,k _ _ hI,⟨c,d,k _ _ hO⟩,h1.at λo q=>k _ _ q,h2.at λo q=>k _ _ q,xG t1 λo q=>k _ _ q,xG t2 λo q=>k _ _ q⟩
end L2
namespace HT
open PySem PyProof.Rows
section
variable {prog:Program}{w:World}{A:Around}{E:Value->Shared->Prop}{s:Shared}
def Af (n:Nat):Builtin.Slice.slicePlaces ((n:Int) - 1) (-1) (-1)=n:=by
 unfold Builtin.Slice.slicePlaces;have h1:¬((-1:Int) > 0):=by omega
 simp only [h1,if_false,Int.neg_neg,Int.ediv_one]
 split <;> omega
def F6 (xs:Array Value):((List.range xs.size).filterMap λ(k:Nat)=>xs[((xs.size:Int) - 1+(k:Int) * (-1)).toNat]?).toArray=xs.toList.reverse.toArray:=by
 have e:=PySem.W.krv_pick xs;unfold slicePick at e;rw [PySem.W.krv_bounds,PySem.W.krv_sliceRange,List.filterMap_map] at e;rw [<-e];have key:∀l:List Nat,(∀k∈l,k < xs.size)->(l.filterMap λ(k:Nat)=>xs[((xs.size:Int) - 1+(k:Int) * (-1)).toNat]?)=l.filterMap ((λx=>xs[x]?) ∘ λk=>xs.size - 1 - k):=by
  intro l
  induction l with
  | nil=>exact λ_=>rfl
  | cons k r ih =>
   intro h;have hk:=h k cI;have e2:((xs.size:Int) - 1+(k:Int) * (-1)).toNat=xs.size - 1 - k:=by omega
   rw [rA,rA,ih λm hm=>h m (cV _ hm),e2];rfl
 rw [key _ λk hk=>jC.mp hk]
def px {sl:Addr}{n:Nat}{u:Tok}{Q:Int×Int×Nat->Shared->Prop}(hs:s.heap.IsSliceOf sl .none .none (.int (-1) u))(h:Q ((n:Int) - 1,-1,n) s):wpAny (model prog w) A (Builtin.Slice.sliceApplied (.ref sl) (pure (n:Int))) Q E s:=by
 obtain⟨os,DI,Hu,IL⟩:=id hs;unfold Builtin.Slice.sliceApplied Builtin.Slice.sliceFields;refine aq (aq (iq DI IL (x:=.none) rfl (aq (iq DI IL (x:=.none) rfl (aq (iq DI IL (x:=.int (-1) u) rfl (aH ?_)))))));refine aq (slicePart_int ?_);show wpAny _ _ (if ((-1:Int) == 0)=true then _ else _) _ _ s;rw [aw (by decide)];refine aq (slicePart_none (aq (slicePart_none (aq (aH ?_)))));show wpAny _ _ (pure ((n:Int) - 1,(-1:Int),Builtin.Slice.slicePlaces ((n:Int) - 1) (-1) (-1))) _ _ s;rw [Af];exact aH h
def oq {t sl:Addr}{items:Array Value}{u:Tok}{Q:Value->Shared->Prop}(ht:IsTup s.heap t items)(hs:s.heap.IsSliceOf sl .none .none (.int (-1) u))
  (h:Q (.ref s.heap.objs.size) { s with heap:=s.heap.push { cls:=.type "tuple",data:=.seq items.toList.reverse.toArray } })(hsz:items.size<=sizeLine):wpAny (model prog w) A (getItem (.ref t) (.ref sl)) Q E s:=by
 have og:sizeOk (.seq items.toList.reverse.toArray):=by
  show items.toList.reverse.toArray.size<=sizeLine;rw [bN,qP,iF];exact hsz
 obtain⟨os,DI,Hu,IL⟩:=id hs;have RE:s.TypeIs (.ref sl) "slice" := ⟨os,DI,Hu⟩;unfold getItem
 try with_reducible refine iV ?_
 first | refine aq (aH ?_) | skip
 refine aq (wpAny_sequenceKey ht.typeIs (by decide) ?_);refine aq (nq (name:=Str.ofString "__getitem__") ht.typeIs nv
  (j6 nv ht.typeIs entry_tuple_getitem ?_ (args_tuple_getitem _ _)))
 show wpAny _ _ (Builtin.Tuple.tupleItemsOf (.ref t) >>= _) _ _ s;refine aq (tupleItemsOf_ ht ?_);refine aq (jX RE ?_);rw [ax (by decide)];refine aq (px hs ?_);show wpAny _ _ (if (((items.size:Int) - 1 == 0) && ((-1:Int) == 1) && (items.size == items.size))=true then _ else _) _ _ s;rw [aw (by simp),F6]
 first
  | exact aq (m:=Builtin.Tuple.tupleExact _) (gH (aH ⟨_,rfl,aH h⟩) og)
  | exact aq (m:=Builtin.Tuple.tupleExact _) (gH (aq (aH (aH ⟨_,rfl,aH h⟩))) og)
  | exact aq (aq (m:=Builtin.Tuple.tupleExact _) (gH (aH (aH ⟨_,rfl,aH h⟩)) og))
  | exact aq (aq (m:=Builtin.Tuple.tupleExact _) (gH (aH ⟨_,rfl,aH h⟩) og))
end
end HT
namespace L2
open PySem PySem.Spec PyProof.Rows
theorem Paired.FU {α β:Type}{F:α->β->Prop}:∀{a:List α}{c:List β},Paired F a c->Paired F a.reverse c.reverse
 | _,_,.nil=>.nil
 | _,_,.cons h t=>by rw [mz,mz];exact gW (Paired.FU t) h
def UP (K:a8)(te:TE):TE:=λσ H Q=>te σ H λx H1=>∃a xs,x=.ref a/\aR K H1 a xs/\∀p,H1 p=none->Q (.ref p) (upd H1 p (.tup xs.reverse))
def MT {X:Cx}{e:Expr}{te:TE}{p2 pos pu pc:Pos}(he:PE X e te):PE X (.Subscript e (.Slice none none (some (.UnaryOp .USub (.Constant (.int 1) 0 pc) pu)) p2) pos) (UP X.K te):=by
 intro ag s σ H Q I h;refine Subscript_ (cW (he ag s σ H _ I h) λv s1 ⟨x,H1,I1,r1,q1⟩=>?_);obtain⟨a,xs,rfl,hx,q⟩:=q1;cases (show v=Value.ref a from r1);refine wpAny_Slice ?_;rw [evalPart_none];refine aH (aH ?_);have hs:PO X (some (.UnaryOp .USub (.Constant (.int 1) 0 pc) pu)) _:=e_ (lZ i_ ar);refine cW (hs ag s1 σ H1 (λl H'=>l=some (-1)/\H'=H1) I1 ⟨_,rfl,_,rfl,rfl,rfl⟩) λvst s2 ⟨l,H2,I2,pl,q2⟩=>?_;obtain⟨rfl,rfl⟩:=q2;cases pl with
 | int i u =>
  have I3:Inv X ag σ H2 { s2 with heap:=s2.heap.push { cls:=.type "slice",data:=.fields #[.none,.none,.int (-1) u] } }:=I2.kept (t':=s2.toks) λb ob q=>bG _ q;obtain⟨aN,r,ht,hz⟩:=I3.tuple hx;have br:=r.length;refine tail_any (T := "tuple") (ops:=[.ref a,.ref s2.heap.objs.size]) ht.typeIs nv.lookup ?_ (by with_unfolding_all rfl);refine HT.oq ht (Heap.IsSliceOf.new ..) ?_ (by rw [bN];omega);refine⟨.ref _,_,I3.laid (t':=s2.toks) (o:=.tup xs.reverse) (λb ob q=>bG _ q) (aD _) ?_,rfl,q _ (I3.bY.fresh (aD _))⟩;exact⟨by rw [qP];exact hz,aN.reverse,Paired.FU r,IsTup.new _ _⟩
open PySem
section
variable {prog:Program}{w:World}{A:Around}{E:Value->Shared->Prop}{s:Shared}
end
structure ZTn (h:Heap)(z TI TO i1 i2 l1 l2:Addr) (i:Nat):Prop where
 hz:∃f0 f1,Iy h z f0 f1 TI TO/\(f0=.none\/∃T:Nat,f0=rawInt T)
 hI:IsPair h TI (.ref i1) (.ref i2)
 hO:∃a b,IsPair h TO a b
 h1:h.IsTupleIter i1 l1 i
 h2:h.IsTupleIter i2 l2 i
end L2
namespace HT
open PySem PySem.Spec PyProof.Rows
section
variable {prog:Program}{w:World}{A:Around}{E:Value->Shared->Prop}{s:Shared}
def ou {t sl:Addr}{items:Array Value}{vl vu:Value}{lo hi:Option Int}{Q:Value->Shared->Prop}(ht:IsTup s.heap t items)(hs:s.heap.IsSliceOf sl vl vu .none)(pl:IsPart vl lo)(pu:IsPart vu hi)
  (hw:fu items.size 0 lo=0/\fu items.size items.size hi=items.size)(h:Q (.ref t) s):wpAny (model prog w) A (getItem (.ref t) (.ref sl)) Q E s:=by
 obtain⟨os,DI,Hu,IL⟩:=id hs;have RE:s.TypeIs (.ref sl) "slice" := ⟨os,DI,Hu⟩;unfold getItem
 try with_reducible refine iV ?_
 first | refine aq (aH ?_) | skip
 refine aq (wpAny_sequenceKey ht.typeIs (by decide) ?_);refine aq (nq (name:=Str.ofString "__getitem__") ht.typeIs nv
  (j6 nv ht.typeIs entry_tuple_getitem ?_ (args_tuple_getitem _ _)))
 show wpAny _ _ (Builtin.Tuple.tupleItemsOf (.ref t) >>= _) _ _ s;refine aq (tupleItemsOf_ ht ?_);refine aq (jX RE ?_);rw [ax (by decide)];refine aq (ji hs pl pu ?_);have Wg:(((fu items.size 0 lo:Nat):Int) == 0 && (1:Int) == 1 && (fu items.size items.size hi - fu items.size 0 lo) == items.size)=true:=by
  rw [hw.1,hw.2];simp
 show wpAny _ _ (if (((fu items.size 0 lo:Nat):Int) == 0 && (1:Int) == 1 && (fu items.size items.size hi - fu items.size 0 lo) == items.size)=true then _ else _) _ _ s;rw [ax Wg];refine aq ?_;unfold Builtin.Tuple.tupleIsExact;refine aq (jX ht.typeIs (aH ?_));rw [ax (by decide)];refine aq (ik ?_);exact aH ⟨_,rfl,aH h⟩
end
end HT
namespace L2
open PySem PySem.Spec PyProof.Rows
def P_ (K:a8):V->Option Int->Option Int->Hp->VK->Prop:=λx lo hi H Q=>∃a xs,x=.ref a/\aR K H a xs/\∀p H',aB H H'->aR K H' p (gp xs lo hi)->Q (.ref p) H'
def qG {X:Cx}:LV X (P_ X.K):=by
 intro ag s σ H x v vl vu lo hi sl Q I rx hs pl pu h;obtain⟨a,xs,rfl,hx,q⟩:=h;by_cases hw:HT.fu xs.length 0 lo=0/\HT.fu xs.length xs.length hi=xs.length
 .have ec:gp xs lo hi=xs:=by
   unfold gp;rw [hw.1,hw.2,qZ,mn,cO]
  cases rx;obtain⟨aN,r,ht,hz⟩:=I.tuple hx;have br:aN.toArray.size=xs.length:=by rw [bN];exact r.length.symm
  refine⟨"tuple",_,nv.lookup,ht.typeIs,?_⟩;exact HT.ou ht hs pl pu (by rw [br];exact hw) ⟨.ref a,H,I,rfl,q a H (λ_ _ h=>h) (by rw [ec];exact hx)⟩
 exact Ms ag s σ H _ v vl vu lo hi sl Q I rx hs pl pu ⟨a,xs,rfl,hx,hw,λp hp=>q p _ (af hp _) (aR.of ae)⟩
def Qe (K:a8):R2:=λx y H Q=>∃a b xs ys,x=.ref a/\y=.ref b/\aR K H a xs/\aR K H b ys/\xs.length+ys.length<=sizeLine/\∀p H',aB H H'->aR K H' p (xs++ys)->Q (.ref p) H'
def wH {X:Cx}:kx X (binaryOp .Add) (Qe X.K):=by
 intro ag s σ H x y v u Q I rx ry h;obtain⟨a,b,xs,ys,rfl,rfl,ha,hb,hz,q⟩:=h;by_cases hx:xs=[]
 .cases rx;cases ry;obtain⟨aN,r1,p1,_⟩:=I.tuple ha;obtain⟨d6,r2,p2,_⟩:=I.tuple hb;have e1:aN=[]:=r1.qJ.mpr hx;obtain⟨⟨cls,dd,data,sl⟩,ho,hc,n,hd⟩:=id p1;obtain⟨⟨XZ,O_,data2,SR⟩,AL,NJ,n2,hd2⟩:=id p2;simp only at hc hd NJ hd2;subst hc hd NJ hd2;exact concat_meets ⟨_,ho,rfl⟩ ⟨_,AL,rfl⟩ noFill_tuple_add seq_tuple_add zC zD (zF _ _)
   (tuple_addW0 a b aN.toArray d6.toArray n n2 dd O_ sl SR (by simp [e1])) ⟨ho,AL,.ref b,H,I,rfl,q b H (λ_ _ h=>h) (by rw [hx];exact hb)⟩
 refine JI ag s σ H _ _ v u Q I rx ry ⟨a,b,xs,ys,rfl,rfl,ha,hb,hx,hz,λe=>q a H (λ_ _ h=>h) (by rw [e,ir];exact ha),λ_ p hp=>q p _ (af hp _) (aR.of ae)⟩
theorem xI:∀{zs:List Str}{aN:List Value},aY (zs.map V.str) aN->StrsAre aN zs
 | [],[],_=>.nil
 | z::r,u::aN,h=>by
  cases h with
  | cons a b =>
   obtain⟨t,rfl⟩:=a;exact .cons z t (xI b)
theorem uv:∀{aN:List Value}{zs:List Str},StrsAre aN zs->aY (zs.map V.str) aN
 | _,_,.nil=>.nil
 | _,_,.cons y t h=>.cons ⟨t,rfl⟩ (uv h)
theorem lt_trans:∀a b c:List Nat,ltCps b a=false->ltCps c b=false->ltCps c a=false
 | [],b,[],_,_=>ltCps.eq_1
 | [],b,_::_,_,_=>ltCps.eq_3 _ _
 | x::r,[],c,h,_=>by rw [ltCps.eq_2] at h;cases h
 | x::r,y::t,[],_,k=>by rw [ltCps.eq_2] at k;cases k
 | x::r,y::t,z::u,h,k=>by
  rw [ltCps.eq_4,Bool.or_eq_false_iff,decide_eq_false_iff_not] at h k ⊢;refine⟨by omega,?_⟩;by_cases e:z=x
  .have e1:y=x:=by omega
   subst e;subst e1;have h2:=h.2;have k2:=k.2;rw [oZ,j4] at h2 k2 ⊢;exact lt_trans r t u h2 k2
  rw [kM.mpr e,qY]
def FZ (x:Str):Nat->Str
 | 0=>Str.empty
 | 1=>x
 | _=>x++x
def JH {X:Cx}:kx X (binaryOp .Mult) (λa b H Q=>∃x n,a=.str x/\b=.int ((n:Nat):Int)/\n<=2/\x.length=1/\Q (.str (FZ x n)) H):=by
 intro ag s σ H a b v u Q I ra rb h;obtain⟨x,n,rfl,rfl,hn,hx,q⟩:=h;obtain⟨t,rfl⟩:=ra;obtain⟨t2,rfl⟩:=rb
 match n,hn,q with
 | 0,_,q=>exact PySem.P.mul_str_none (by decide) (by decide) ⟨.str Str.empty,H,I.tok _,⟨_,rfl⟩,q⟩
 | 1,_,q =>
  refine PySem.P.mul_str (by decide) (λ_ h=>by simp at h) (λ_ h=>by simp at h) ?_;rw [aw (by decide),ax (by rfl)];exact⟨.str x,H,I,⟨_,rfl⟩,q⟩
 | 2,_,q =>
  refine PySem.P.mul_str (by decide) (λ_ _=>by rw [hx];decide) (λ_ _=>by rw [hx];decide) ?_;rw [aw (by decide),aw (by rw [hx];decide)];have le:(Str.mk (#[]++x.cps++x.cps)).length<=sizeLine:=by
   show (#[]++x.cps++x.cps).size<=sizeLine;rw [Array.empty_append,Array.size_append];have:x.cps.size=1:=hx;rw [this];decide
  refine⟨le,⟨.str (x++x),H,I.tok _,⟨s.toks,?_⟩,q⟩⟩;show Value.str ⟨#[]++x.cps++x.cps⟩ _=Value.str ⟨x.cps++x.cps⟩ _;rw [Array.empty_append]
section
variable {prog:Program}{w:World}{A:Around}{E:Value->Shared->Prop}{s:Shared}
end
def Pz (K:a8)(te:TE):TE:=λσ H Q=>te σ H λx H1=>∃a xs,x=.ref a/\aG K H1 a xs/\∀p,H1 p=none->Q (.ref p) (upd H1 p (.lst xs.reverse))
def JA {X:Cx}{e:Expr}{te:TE}{p2 pos pu pc:Pos}(he:PE X e te):PE X (.Subscript e (.Slice none none (some (.UnaryOp .USub (.Constant (.int 1) 0 pc) pu)) p2) pos) (Pz X.K te):=by
 intro ag s σ H Q I h;refine Subscript_ (cW (he ag s σ H _ I h) λv s1 ⟨x,H1,I1,r1,q1⟩=>?_);obtain⟨a,xs,rfl,hx,q⟩:=q1;cases (show v=Value.ref a from r1);refine wpAny_Slice ?_;rw [evalPart_none];refine aH (aH ?_);have hs:PO X (some (.UnaryOp .USub (.Constant (.int 1) 0 pc) pu)) _:=e_ (lZ i_ ar);refine cW (hs ag s1 σ H1 (λl H'=>l=some (-1)/\H'=H1) I1 ⟨_,rfl,_,rfl,rfl,rfl⟩) λvst s2 ⟨l,H2,I2,pl,q2⟩=>?_;obtain⟨rfl,rfl⟩:=q2;cases pl with
 | int i u =>
  have I3:Inv X ag σ H2 { s2 with heap:=s2.heap.push { cls:=.type "slice",data:=.fields #[.none,.none,.int (-1) u] } }:=I2.kept (t':=s2.toks) λb ob q=>bG _ q;obtain⟨aN,r,ht,hz⟩:=I3.list hx;have br:=r.length;refine tail_any (T := "list") (ops:=[.ref a,.ref s2.heap.objs.size]) ht.isList.typeIs slot_list_getitem.lookup ?_ (by with_unfolding_all rfl);refine wpAny_getItem_list_slice ht.isList (Heap.IsSliceOf.new ..) .none .none (.int (-1) u) (by simp) ?_ (by rw [bN];omega);rw [PySem.W.krv_pick];refine⟨.ref _,_,I3.laid (t':=s2.toks) (o:=.lst xs.reverse) (λb ob q=>bG _ q) (aD _) ?_,rfl,q _ (I3.bY.fresh (aD _))⟩;exact⟨by rw [qP];exact hz,aN.reverse,0,Paired.FU r,cy _ rfl⟩
open PySem PySem.W PyProof.Rows
section
variable {n:Nat}{lt:Nat->Nat->Bool}{cmp:Nat->Nat->(Bool->Shared->Prop)->Shared->Prop}{s:Shared}
structure KH (n:Nat)(lt:Nat->Nat->Bool):Prop where
 trans:∀a b c,a < n->b < n->c < n->lt b a=false->lt c b=false->lt c a=false
 Yk:∀a b,a < n->b < n->lt a b=true->lt b a=false
structure Pf (n:Nat)(p:Array Nat):Prop where
 pm:p.Perm (List.range n).toArray
theorem Pf.size {p:Array Nat}(h:Pf n p):p.size=n:=by
 have:=h.pm.size_eq;simpa using this
def Pf.Ln {p:Array Nat}(h:Pf n p){i:Nat}(hi:i < n):p.getD i 0 < n:=by
 have hs:=h.size;have e:p.getD i 0=p[i]'(by omega):=by simp [Array.getD,hs,hi]
 rw [e];have:p[i]'(by omega)∈(List.range n).toArray:=h.pm.mem_iff.mp (Array.getElem_mem _);simpa using this
abbrev at_ (p:Array Nat) (i:Nat):Nat:=p.getD i 0
def Ox (lt:Nat->Nat->Bool)(p:Array Nat) (k:Nat):Prop:=∀i j,i<=j->j < k->lt (at_ p j) (at_ p i)=false
def OA (lt:Nat->Nat->Bool)(p:Array Nat) (k:Nat):Prop:=∀i j,i<=j->j < k->lt (at_ p i) (at_ p j)=false
def KH.ZD (o:KH n lt){a:Nat}(h:a < n):lt a a=false:=by
 cases e:lt a a with
 | false=>rfl
 | true=>rw [<-o.Yk a a h h e,e]
def Ox.more {p:Array Nat}{m:Nat}(o:KH n lt)(P:Pf n p)(h:Ox lt p m)(hm:1<=m)(hn:m < n)(c:lt (at_ p m) (at_ p (m - 1))=false):Ox lt p (m+1):=by
 intro i j Kc hj;by_cases e:j=m
 .subst e;by_cases e2:i=j
  .subst e2;exact o.ZD (P.Ln hn)
  exact o.trans _ (at_ p (j - 1)) _ (P.Ln (by omega)) (P.Ln (by omega)) (P.Ln hn) (h i (j - 1) (by omega) (by omega)) c
 exact h i j Kc (by omega)
def OA.more {p:Array Nat}{m:Nat}(o:KH n lt)(P:Pf n p)(h:OA lt p m)(hm:1<=m)(hn:m < n)(c:lt (at_ p (m - 1)) (at_ p m)=false):OA lt p (m+1):=by
 intro i j Kc hj;by_cases e:j=m
 .subst e;by_cases e2:i=j
  .subst e2;exact o.ZD (P.Ln hn)
  exact o.trans _ (at_ p (j - 1)) _ (P.Ln hn) (P.Ln (by omega)) (P.Ln (by omega)) c (h i (j - 1) (by omega) (by omega))
 exact h i j Kc (by omega)
end
def Inv.QI {X:Cx}{ag:List (Addr×Obj)}{σ:St}{H:Hp}{s:Shared}{h':Heap}{a:Addr}{o:HO}{t':Nat}(I:Inv X ag σ H s)(k:∀b u,b≠X.env.locals->s.heap.get? b=some u->h'.get? b=some u)
  (ns:∀m,s.heap.Ns X.env.locals m->h'.Ns X.env.locals m)(hp:s.heap.get? a=none)(hn:H a=none)(new:cK X.prog X.w (upd H a o) h' a o):Inv X ag σ (upd H a o) { s with heap:=h',toks:=t' }:=by
 have ne:∀b u,s.heap.get? b=some u->b≠a:=λb u q z=>by rw [z,hp] at q;cases q
 refine I.step (g':=s.gens) (d':=s.drawn) (ch:=[]) (λ_ z=>nomatch z) (λb u hb _ _ e _=>k b u hb e) (λb u hb _ _ e _=>⟨u.slots,k b u hb e⟩) (λb u _ e n=>by rw [ai (ne b u e)];exact n)
  (λb u _ e=>?_) (λb xs q=>by rw [ai (az q hn)];exact q) (λb u xs q=>by rw [ai (az q hn)];exact q) (λb ps q=>⟨#[],by rw [ai (az q hn),q];simp⟩) ns (λb u e=>?_) I.bare
 .by_cases hb:b=X.env.locals
  .obtain⟨m,hm,_⟩:=I.loc;obtain⟨o',_,_,Hl,_⟩:=ns m hm;exact⟨o',by rw [hb];exact Hl⟩
  exact⟨u,k b u hb e⟩
 by_cases hb:b=a
 .subst hb;rw [ae] at e;cases e;exact new
 rw [ai hb] at e;refine(I.bY b u e).kW (λc v hc q=>k c v ?_ q) (λc q=>by rw [ai (az q hn)];exact q) λc xs q=>by rw [ai (az q hn)];exact q
 rintro rfl;rcases hc with rfl | hc
 .rw [I.free] at e;cases e
 rw [I.free] at hc;cases hc
def Gm {P:Program}{w:World}{H:Hp}{h:Heap}{a:Addr}{o:HO}(x:cK P w H h a o):∃u,h.get? a=some u:=by
 cases o with
 | lst xs=>obtain⟨_,_,_,_,e⟩:=x;exact⟨_,e⟩
 | tup xs=>obtain⟨_,_,_,ob,e,_⟩:=x;exact⟨_,e⟩
 | dK kvs=>obtain⟨_,_,_,_,o,_,_,e,_⟩:=x;exact⟨_,e⟩
 | dT kvs=>obtain⟨_,_,_,_,o,_,_,e,_⟩:=x;exact⟨_,e⟩
 | set S n=>obtain⟨o,_,_,_,e,_⟩:=x;exact⟨_,e⟩
 | ins C dx fs=>obtain⟨_,_,_,e,_⟩:=x;exact⟨_,e⟩
 | own y=>obtain⟨_,e⟩:=x;exact⟨_,e⟩
 | xd fs=>obtain⟨_,⟨_,_,_,e,_⟩,_⟩:=x;exact⟨_,e⟩
 | CZ lo hi=>obtain⟨_,_,_,e⟩:=x;exact⟨_,e⟩
 | ku ob u=>obtain⟨e,_⟩:=x;exact⟨_,e⟩
 | tX ps=>exact⟨_,(show h.get? a=some _ from x)⟩
 | met f y=>exact⟨_,(show h.get? a=some _ from x)⟩
 | ext φ=>obtain⟨_,⟨_,e⟩,_⟩:=x;exact⟨_,e⟩
open PySem PySem.Spec PyProof.Rows PySem.W
section
variable {P:Program}{w:World}{A:Around}{E:Value->Shared->Prop}{s:Shared}
def G9 {f c' c d:Addr}{q:Str}{params:Arguments}{scope:Scope}{cl:List (Str×Addr)}{pm gF:Value}{p1 p2 p3:Pos}{xs xh:Str}{vs:List (aL×Value)}{z:Str}{t:Tok}{u:Value}{oc:Obj}{Q:Value->Shared->Prop}
  (Q6:A.depth < recursionLimit)(nl:s.heap.NoLimit)(hf:s.heap.get? f=some (kla_obj "<lambda>" q params (.Subscript (.Name xs p1) (.Name xh p2) p3) scope cl pm c' gF))(hc:s.heap.CodeRec (.ref c') q)
  (hb:∀us:List Value,us.length=1->bindArgs (kla_fn "<lambda>" q params (.Subscript (.Name xs p1) (.Name xh p2) p3) scope cl pm (.ref c') gF) ⟨us,[]⟩=pure ([xh].zip us))
  (hk:scope.kind=.function)(WY:scope.isCoroutine=false)(ND:scope.isGenerator=false)(WI:∀x∈scope.names,x.2≠.cell)(hh:scope.names.lookup xh=some .local)(hs:scope.names.lookup xs=some .free)
  (mZ:cl.lookup xs=some c)(ho:s.heap.get? c=some oc)(zt:oc.data=.cell (some (.ref d)))(dd:s.heap.DictOf (bh P w) d vs)(hv:valueAt vs (Sum.inr z)=some u)
  (d1:(xs == ("__debug__":Str))=false)(d2:(xh == ("__debug__":Str))=false)(d3:(xs == ("__classdict__":Str))=false)
  (h:∀h' tk,(∀b o,s.heap.get? b=some o->h'.get? b=some o)->Q u { s with heap:=h',toks:=tk }):wpAny (model P w) A (call (.ref f) [.str z t]) Q E s:=by
 refine kN (kla_callFunE Q6 hf rfl WY ND rfl hc ?_);rw [hb [.str z t] rfl];refine aH (wpAny_newFunctionEnv WI (λx hx=>?_) (λh₁ xt J2=>⟨nl.fresh _ J2,?_⟩) hk)
 .have:x=(xh,Value.str z t):=by simpa using hx
  rw [this];exact hh
 show codeAny _ _ (.expr (.Subscript (.Name xs p1) (.Name xh p2) p3) (envX q scope s.heap.objs.size f (.ref c') cl)) _ _;have k1:∀b o,s.heap.get? b=some o->h₁.get? b=some o:=λb o e=>J2.extBut b o (bD (bu e)) (bG _ e);refine kla_codeExpr (Bz PySem.F.slot_dict_getitem.lookup (λ_ _=>rfl) ?_);refine wpAny_Name (wpAny_loadName_free hk hs mZ ⟨oc,k1 _ _ ho,zt⟩ ?_ d3) d1;refine wpAny_Name (vB hk hh xt (show ([(xh,Value.str z t)]:List (Str×Value)).reverse.lookup xh=some (.str z t) by simp [List.lookup]) ?_) d2;have dd1:h₁.DictOf (bh P w) d vs:=by
  obtain⟨o,es,ep,g,r⟩:=dd;exact⟨o,es,ep,k1 _ _ g,r⟩
 refine⟨dd1.typeIs,wpAny_getItem_of (l8 (k:=Sum.inr z) ⟨t,rfl⟩) dd1.mapOf hv ?_⟩;exact h h₁ _ k1
end
section
variable {X:Cx}{params:Arguments}{body:Expr}{scope:Scope}{pos:Pos}{c T:Addr}
abbrev iY (X:Cx)(params:Arguments)(body:Expr)(scope:Scope)(cl:List (Str×Addr))(c':Addr)(gF:Value):Obj:=kla_obj "<lambda>" (X.env.qual ++ "<lambda>") params body scope cl ((X.mg "__name__").getD .none) c' gF
def PN (X:Cx)(params:Arguments)(body:Expr)(scope:Scope)(pos:Pos)(T:Addr):TE:=λσ H Q=>Tab T pos (X.env.qual ++ "<lambda>") H /\
 ∀f c' gF cl H',KN X.env scope cl->cX T H H'->Tab T pos (X.env.qual ++ "<lambda>") H'->H f=none->H' f=some (pG f (iY X params body scope cl c' gF))->H' c'=some (ki c' (X.env.qual ++ "<lambda>"))->Q (.ref f) H'
def JC (sP:X.env.code=.ref c)(hC:codeHdIn X.K c T=true)(hB:tV X.mg X.base)(oj:∀y,(y,NameKind.free)∈scope.names->X.env.scope.names.lookup y=some .cell)(Ht:defaultsOf params X.env=([],[]):=by rfl):PE X (.Lambda params body scope pos) (PN X params body scope pos T):=by
 intro ag s σ H Q I h;obtain⟨⟨ps,hT,ht,Hv⟩,q⟩:=h;refine kla_eval Ht ?_;obtain⟨cl,mZ⟩:=xf (env:=X.env) (scope:=scope) λy hy=>I.ok.has y (.inl (oj y hy));have NP:s.heap.get? T=some (tabObj ps):=(show cK X.prog X.w H s.heap T (.tX ps) from I.bY T _ hT);have hg:=I.mod.glob.keeps I.bk;have C:=codeHd_of_K I.wU hC;obtain⟨bm,ob,b1,b2,b3,b4,b5,b6,b7⟩:=hB;have Ye:=I.bk _ _ b4;have VH:bm≠T:=λz=>by
  have:=(I.bs _ _ b4).2;rw [z,hT] at this;cases this
 have VE:mainGlobals≠T:=λz=>by
  obtain⟨o,es,ep,e,d,_⟩:=hg;rw [z,NP] at e;cases e;cases d
 have RI:s.heap.BuiltinsAt X.mg T:=⟨bm,ob,b1,b2,b3,VH,Ye,b5,b6,b7⟩;have ID:∀b v,H b=some v->b < s.heap.objs.size:=λb v e=>I.bY.lt e;rcases Hv with Rf | ⟨c',hf,mR⟩
 .refine kla_makeFunction mZ.eq I.ok.glob hg sP C NP ht Rf VE RI λc' gF h' tk hx NF jd Hj Q0=>?_;have hcr:∃oc,h'.get? c'=some oc:=by
   obtain⟨c2,oc,vs,t,e,zt,_⟩:=Hj;cases e;exact⟨oc,zt⟩
  have sN:h'.objs.size > s.heap.objs.size:=rq NF jd;have keep:∀b o,b≠T->s.heap.get? b=some o->(h'.push (iY X params body scope cl c' gF)).get? b=some o:=λb o n e=>bG _ (hx b o n e)
  let H':Hp:=upd (upd (upd H T (.tX (ps++#[rawInt pos.line,rawInt pos.col,.ref c']))) c' (ki c' (X.env.qual ++ "<lambda>"))) h'.objs.size (pG h'.objs.size (iY X params body scope cl c' gF))
  have AA:∀b v,H b=some v->b≠c'/\b≠h'.objs.size:=λb v e=>⟨bD (gr (ID b v e) NF),bD (jA (ID b v e) sN)⟩;have VG:c'≠h'.objs.size:=bD jd;have Qv:=AA T _ hT;have eT:H' T=some (.tX (ps++#[rawInt pos.line,rawInt pos.col,.ref c'])):=by
   show upd (upd (upd H T _) c' _) h'.objs.size _ T=_;rw [ai Qv.2,ai Qv.1,ae]
  have ec:H' c'=some (ki c' (X.env.qual ++ "<lambda>")):=by
   show upd (upd (upd H T _) c' _) h'.objs.size _ c'=_;rw [ai VG,ae]
  have ef:H' h'.objs.size=some (pG h'.objs.size (iY X params body scope cl c' gF)):=ae;have eo:∀b,b≠T->b≠c'->b≠h'.objs.size->H' b=H b:=λb n1 n2 n3=>by
   show upd (upd (upd H T _) c' _) h'.objs.size _ b=_;rw [ai n3,ai n2,ai n1]
  have sT:cX T H H':=λb o n e=>by rw [eo b n (AA b o e).1 (AA b o e).2];exact e
  have I2:Inv X ag σ H' { s with heap:=h'.push (iY X params body scope cl c' gF),toks:=tk }:=by
   refine I.call (g':=s.gens) (t':=tk) (d':=s.drawn) (ch:=[]) ⟨λb o e n _ _=>keep b o (λz=>by rw [z,hT] at n;cases n) e,λb o e n _ _=>⟨o.slots,keep b o (λz=>by rw [z,hT] at n;cases n) e⟩,λb o e n _=>?_,λb o e _=>?_,λb xs e=>?_,λb o u e=>?_,λb EK e=>?_⟩ (λb v e=>?_) I.bare (λb hb=>nomatch hb)
   .have lb:=bu e;rw [eo b (λz=>by rw [z,hT] at n;cases n) (bD (gr lb NF)) (bD (jA lb sN))];exact n
   .by_cases z:b=T
    .exact⟨_,by rw [z];exact bG _ Q0⟩
    exact⟨o,keep b o z e⟩
   .exact sT b _ (λz=>by rw [z,hT] at e;cases e) e
   .exact sT b _ (λz=>by rw [z,hT] at e;cases e) e
   .by_cases z:b=T
    .subst z;rw [hT] at e;cases e;exact⟨_,eT⟩
    exact⟨#[],by rw [Array.append_empty];exact sT b _ z e⟩
   by_cases z1:b=h'.objs.size
   .subst z1;rw [ef] at e;cases e;exact qL (cy _ rfl)
   by_cases z2:b=c'
   .subst z2;rw [ec] at e;cases e;refine yU ?_;obtain⟨c2,oc,vs,t,e',zt,hd,hv⟩:=Hj;cases e';exact⟨_,oc,vs,t,rfl,bG _ zt,hd,hv⟩
   by_cases z3:b=T
   .subst z3;rw [eT] at e;cases e;exact bG _ Q0
   rw [eo b z3 z2 z1] at e;refine(I.bY b v e).kW (λd o DM e'=>?_) (λd e'=>sT d _ (λz=>by rw [z,hT] at e';cases e') e') λd ys e'=>sT d _ (λz=>by rw [z,hT] at e';cases e') e';rcases DM with rfl | DM
   .exact keep d o z3 e'
   exact keep d o (λz=>by rw [z,hT] at DM;cases DM) e'
  have fresh:H h'.objs.size=none:=I.bY.fresh (i7 sN);exact⟨.ref h'.objs.size,H',I2,rfl,q _ c' gF cl H' mZ sT ⟨_,eT,by rw [vC];exact jD _ ht,.inr ⟨c',by rw [vC];exact codeAmong_snoc _ ht Rf,ec⟩⟩ fresh ef ec⟩
 refine kla_makeFunctionHit mZ.eq I.ok.glob hg sP C NP ht hf RI λgF h' tk hk hsz=>?_;have keep:∀b o,s.heap.get? b=some o->(h'.push (iY X params body scope cl c' gF)).get? b=some o:=λb o e=>bG _ (hk b o e);have fresh:H h'.objs.size=none:=I.bY.fresh hsz;refine⟨.ref h'.objs.size,_,I.laid (a:=h'.objs.size) (o:=pG h'.objs.size (iY X params body scope cl c' gF)) (t':=tk) keep hsz (qL (cy _ rfl)),rfl,?_⟩;refine q _ c' gF cl _ mZ (λb o _ e=>by rw [ai (az e fresh)];exact e) ⟨ps,by rw [ai (az hT fresh)];exact hT,ht,.inr ⟨c',hf,by rw [ai (az mR fresh)];exact mR⟩⟩ fresh ae (by rw [ai (az mR fresh)];exact mR)
end
theorem BD:∀{zs:List Str}{aN:List Value},aY (zs.map V.str) aN->∀(i:Nat)(v:Value),aN[i]?=some v->∃z t,zs[i]?=some z/\v=.str z t
 | [],[],_,i,v,h=>by simp at h
 | z::r,u::aN,h,i,v,hi=>by
  cases h with
  | cons a b =>
   cases i with
   | zero =>
    cases hi;obtain⟨t,e⟩:=(show ∃t,u=Value.str z t from a);exact⟨z,t,rfl,e⟩
   | succ i=>exact BD b i v hi
theorem uy:∀(ps:List (Str×Tok)),aY ((ps.map (·.1)).map V.str) (ps.map λp=>Value.str p.1 p.2)
 | []=>.nil
 | p::r=>.cons ⟨p.2,rfl⟩ (uy r)
theorem uz:∀{zs:List Str}{aN:List Value},aY (zs.map V.str) aN->∃ps:List (Str×Tok),ps.map (·.1)=zs/\aN=ps.map λp=>Value.str p.1 p.2
 | [],[],_=>⟨[],rfl,rfl⟩
 | z::r,u::aN,h=>by
  cases h with
  | cons a b =>
   obtain⟨t,e⟩:=(show ∃t,u=Value.str z t from a);obtain⟨ps,e1,e2⟩:=uz b;exact⟨(z,t)::ps,by rw [cN,e1],by rw [cN,e2,e]⟩
def Ah {α β:Type}{f:α->β}{l m:List β}(h:l.Perm m):∀ps:List α,m=ps.map f->∃qs:List α,l=qs.map f/\qs.Perm ps:=by
 induction h with
 | nil =>
  intro ps e;cases ps with
  | nil=>exact⟨[],rfl,.nil⟩
  | cons p r=>cases e
 | cons x h ih =>
  intro ps e;cases ps with
  | nil=>cases e
  | cons p r =>
   rw [cN] at e;injection e with e1 e2;obtain⟨qs,a,b⟩:=ih r e2;exact⟨p::qs,by rw [cN,a,e1],b.cons p⟩
 | swap x y l =>
  intro ps e
  match ps,e with
  | [],e=>cases e
  | [_],e=>cases e
  | p::p2::r,e =>
   rw [cN,cN] at e;injection e with e1 e2;injection e2 with e3 e4;exact⟨p2::p::r,by rw [cN,cN,e1,e3,e4],.swap p p2 r⟩
 | trans h1 h2 i1 i2 =>
  intro ps e;obtain⟨qs,a,b⟩:=i2 ps e;obtain⟨rs,c,d⟩:=i1 qs a;exact⟨rs,c,d.trans b⟩
def Gf {g:Str->Int}{ps:List (Str×Tok)}{out:List Value}(h:KskOut false ((ps.map (·.1)).map g) (ps.map λp=>Value.str p.1 p.2) out) :
  ∃qs:List (Str×Tok),out=qs.map (λp=>Value.str p.1 p.2)/\(qs.map (·.1)).Perm (ps.map (·.1))/\(qs.map (·.1)).Pairwise λx y=>g x<=g y:=by
 obtain⟨rs,h1,h2,h3⟩:=h;have ez:((ps.map (·.1)).map g).zip (ps.map λp=>Value.str p.1 p.2)=ps.map λp=>(g p.1,Value.str p.1 p.2):=by
  rw [iU,List.zip_map,List.zip_eq_zipWith]
  induction ps with
  | nil=>rfl
  | cons p r ih=>simp_all
 rw [ez] at h1;obtain⟨qs,q1,q2⟩:∃qs:List (Str×Tok),rs=qs.map (λp=>(g p.1,Value.str p.1 p.2))/\qs.Perm ps:=by
  exact Ah h1 ps rfl
 subst q1;refine⟨qs,by rw [h2,iU];rfl,q2.map _,?_⟩;rw [List.pairwise_map] at h3 ⊢;exact h3.imp λh=>by simpa using h
section
variable {X:Cx}{i:Nat}{xs xh:Str}{params:Arguments}{scope:Scope}{p pos AB kp p1 p2 p3:Pos}{e:Expr}{ta:TA}{c T:Addr}{k:Nat}
abbrev Cy (xs xh:Str)(p1 p2 p3:Pos):Expr:=.Subscript (.Name xs p1) (.Name xh p2) p3
def Mg (X:Cx) (i:Nat)(AB:Pos)(T:Addr)(ta:TA):TE:=λσ H Q=>ta σ H λvs H1=>Tab T AB (X.env.qual ++ "<lambda>") H1/\∃(a:Addr) (zs:List Str)(d:Addr)(kvs:List (aL×V))(g:Str->Int),vs=[.ref a]/\aG X.K H1 a (zs.map V.str)/\zs.length < 64/\σ[i]?=some (some (.ref d))/\Rd H1 d (.dK kvs) /\
 (∀z∈zs,bf kvs (Sum.inr z)=some (.int (g z)))/\∀(l:Addr) (E6:List Str)(H':Hp),cX T H1 H'->Tab T AB (X.env.qual ++ "<lambda>") H'->H1 l=none->E6.Perm zs->E6.Pairwise (λx y=>g x<=g y)->H' l=some (.lst (E6.map V.str))->Q (.ref l) H'
def F8 (hr:fg (k+1) X.A)(sP:X.env.code=.ref c)(hC:codeHdIn X.K c T=true)(hB:tV X.mg X.base)(hg:Gl X "sorted")(hm:X.mg "sorted"=none)(ha:PA X [e] ta)
  (hN:X.N[i]?=some xs)(hx:X.env.scope.names.lookup xs=some .cell)(oj:∀y,(y,NameKind.free)∈scope.names->X.env.scope.names.lookup y=some .cell)
  (hb:∀(q:Str)(cl:List (Str×Addr))(pm gF:Value)(c':Addr)(us:List Value),us.length=1->bindArgs (kla_fn "<lambda>" q params (Cy xs xh p1 p2 p3) scope cl pm (.ref c') gF) ⟨us,[]⟩=pure ([xh].zip us))
  (hk:scope.kind=.function)(WY:scope.isCoroutine=false)(ND:scope.isGenerator=false)(WI:∀x∈scope.names,x.2≠.cell)(hh:scope.names.lookup xh=some .local)(hs:scope.names.lookup xs=some .free)
  (d1:(xs == ("__debug__":Str))=false:=by decide)(d2:(xh == ("__debug__":Str))=false:=by decide)(d3:(xs == ("__classdict__":Str))=false:=by decide)
  (Ht:defaultsOf params X.env=([],[]):=by rfl)
  (he:backTo pos (starEach [e] X.env)=(false,eval e X.env)::backTo pos (starEach [] X.env):=by rfl)(hp:(backTo pos (starEach [e] X.env)).any (·.1)=false:=by rfl) :
  PE X (.Call (.Name "sorted" p) [e] [⟨some "key",.Lambda params (Cy xs xh p1 p2 p3) scope AB,kp⟩] pos) (Mg X i AB T ta):=by
 intro ag s σ H Q I h;refine nj (iP I hg hm boot_sorted ?_);refine callWith_kw (cW (ha pos ag s σ H _ I h) λus s1 ⟨vs,H1,I1,r1,Ke,a,zs,d,kvs,g,ev,hq,Xi,hσ,hd,hv,q1⟩=>?_) he hp rfl rfl;subst ev;have low:=JC (X:=X) (params:=params) (body:=Cy xs xh p1 p2 p3) (scope:=scope) (pos:=AB) (c:=c) (T:=T) sP hC hB oj Ht ag s1 σ H1
  (λfv H2=>∃f c' gF cl,fv=.ref f/\KN X.env scope cl/\cX T H1 H2/\Tab T AB (X.env.qual ++ "<lambda>") H2/\H2 f=some (pG f (iY X params (Cy xs xh p1 p2 p3) scope cl c' gF))/\H2 c'=some (ki c' (X.env.qual ++ "<lambda>"))) I1
  ⟨Ke,λf c' gF cl H' a1 a2 a3 a4 a5 a6=>⟨f,c',gF,cl,rfl,a1,a2,a3,a5,a6⟩⟩
 refine kws_cons (cW low λu2 s2 ⟨fv,H2,I2,r2,f,c',gF,cl,ef,mZ,st,TQ,hf,mR⟩=>kws_nil ?_);subst ef;cases (show u2=Value.ref f from r2);obtain⟨u,rfl,rx⟩:=vals1 r1;cases (show u=Value.ref a from rx);obtain⟨pt,eT,_⟩:=id Ke;have hq2:aG X.K H2 a (zs.map V.str):=by
  rcases hq with (h | ⟨o,h⟩) | h
  .exact .inl (.inl (st _ _ (λz=>by rw [z,eT] at h;cases h) h))
  .exact .inl (.inr ⟨o,st _ _ (λz=>by rw [z,eT] at h;cases h) h⟩)
  exact .inr h
 have hd2:Rd H2 d (.dK kvs):=by
  rcases hd with h | ⟨o,h⟩
  .exact .inl (st _ _ (λz=>by rw [z,eT] at h;cases h) h)
  exact .inr ⟨o,st _ _ (λz=>by rw [z,eT] at h;cases h) h⟩
 obtain⟨aN,rv,pl,hz⟩:=I2.list hq2;obtain⟨pzs,ez,ei⟩:=uz rv;have zp:=pl.isList;obtain⟨oa,ga,ca,na,da⟩:=id zp;obtain⟨m,xt,lk⟩:=id I2.loc;have JS:∀b o,H2 b=some o->b≠X.env.locals:=λb o hb z=>by rw [z,I2.free] at hb;cases hb
 have Qq:d≠X.env.locals:=by
  rcases hd2 with h | ⟨o,h⟩
  .exact JS d _ h
  exact JS d _ h
 have neA:a≠X.env.locals:=λz=>by
  obtain⟨o,es,ep,ho,Cf,_⟩:=xt;rw [<-z,ga] at ho;cases ho;rw [da] at Cf;cases Cf
 obtain⟨ud,rd,lkd⟩:=lk i xs (.ref d) hN hσ (.inr (.inl hx));cases (show ud=Value.ref d from rd);obtain⟨cc,ecc,oc,Rb,Ra⟩:∃cc,X.env.cells.lookup xs=some cc/\s2.heap.IsCell cc (some (.ref d)):=by
  rcases lkd with ⟨l,_⟩ | ⟨_,c2,e2,h2⟩
  .have l':X.env.scope.names.lookup xs=some .local:=l;rw [hx] at l';cases l'
  exact⟨c2,e2,h2⟩
 obtain⟨cc',ecl⟩:=mZ.all xs (wK hs);have e3:=mZ.sub _ _ ecl;rw [ecc] at e3;cases e3;have OK:cc≠X.env.locals:=λz=>by
  obtain⟨o,es,ep,ho,Cf,_⟩:=xt;rw [<-z,Rb] at ho;cases ho;rw [Ra] at Cf;cases Cf
 obtain⟨gf,_⟩:=I2.bY f _ hf;obtain⟨gc,_⟩:=I2.bY c' _ mR;obtain⟨zl,DF,dvs,rel,dd⟩:=oC I2.bY hd2;obtain⟨m0,F0⟩:=I2.fr;refine ksk_sorted (kz:=zs.map g) (f:=.ref f) (b:=false) (vs:=aN) (h₀:=Je.su s2.heap) (L:=X.env.locals) (m:=m) (news:=(a,oa)::Je.ledger s2.heap X.env.locals a) (Je.NX xt) (Je.yn neA ga) zp (by rw [av,<-rv.length,av]) (by rw [<-rv.length,av];exact Xi)
  (ksk_s1 _ _) (λx=>ksk_l1 _ _) (λx=>ksk_t1 f x) (λj v kk hj ZY oK tk own F N=>?_) λD h' tk out cnt F' N' lt' ko=>?_
 .obtain⟨z,t,T7,rfl⟩:=BD rv j v hj;rw [bo,T7] at ZY;cases ZY;have keep:∀b u,b≠X.env.locals->s2.heap.get? b=some u->oK.get? b=some u:=λb u nb hb=>by
   by_cases e:b=a
   .subst e;rw [ga] at hb;cases hb;exact(N (b,oa) (by simp)).1
   exact(N (b,u) (iG _ (cV _ (Je.jP.mpr ⟨nb,e,hb⟩)))).1
  have hvz:=hv z (bZ T7);obtain⟨w',hw,Ab⟩:=jV.some_of (v:=.int (g z)) (o:=valueAt dvs (Sum.inr z)) (by rw [<-hvz];exact rel.val (Sum.inr z));obtain⟨tw,rfl⟩:=(show ∃t,w'=Value.int (g z) t from Ab);have O_:oK.DictOf (bh X.prog X.w) d dvs:=by
   obtain⟨o,es,ep,g1,r⟩:=dd;exact⟨o,es,ep,keep _ _ Qq g1,r⟩
  have gc2:oK.CodeRec (.ref c') (X.env.qual ++ "<lambda>"):=by
   obtain⟨c2,oc2,Pr,t2,e2,zt,je,OO⟩:=gc;cases e2;exact⟨_,oc2,Pr,t2,rfl,keep _ _ (JS c' _ mR) zt,je,OO⟩
  have nl:oK.NoLimit:=I2.mod.nolimit.keeps λb o e=>keep b o (bD (gr (bu e) F0.above)) (I2.bk b o e);exact G9 (s:={ s2 with heap:=oK,toks:=tk }) (A:=X.A.in1.in1) hr.depth nl (keep _ _ (JS f _ hf) gf) gc2 (λus hl=>hb _ _ _ _ _ us hl) hk WY ND WI hh hs ecl (keep _ _ OK Rb) Ra O_ hw d1 d2 d3
   λh3 tk3 Zw=>KskEnd.intro (F.kept Zw) (N.grown Zw) λp hp=>hp
 have keep:∀b u,b≠X.env.locals->s2.heap.get? b=some u->h'.get? b=some u:=λb u nb hb=>by
  by_cases e:b=a
  .subst e;rw [ga] at hb;cases hb;exact(N' (b,oa) (by simp)).1
  exact(N' (b,u) (cV _ (cV _ (Je.jP.mpr ⟨nb,e,hb⟩)))).1
 have hD:s2.heap.get? D=none:=by
  cases e:s2.heap.get? D with
  | none=>rfl
  | some o =>
   exfalso;have nD:D≠X.env.locals:=(N' (D,_) cI).2.1;by_cases ea:D=a
   .have:=lt' (a,oa) cI;rw [ea] at this;exact absurd this (jB _)
   exact absurd (lt' (D,o) (cV _ (Je.jP.mpr ⟨nD,ea,e⟩))) (jB _)
 have fD:H2 D=none:=by
  cases e:H2 D with
  | none=>rfl
  | some u =>
   obtain⟨ob,g⟩:=Gm (I2.bY D u e);rw [hD] at g;cases g
 have fD1:H1 D=none:=by
  cases e:H1 D with
  | none=>rfl
  | some u =>
   by_cases z:D=T
   .obtain⟨pt2,eT2,_⟩:=TQ;rw [z,eT2] at fD;cases fD
   rw [st _ _ z e] at fD;cases fD
 rw [ei,<-ez] at ko;obtain⟨qs,eo,pe,ps⟩:=Gf ko;rw [ez] at pe;have gD:=(N' (D,_) cI).1;have lq:qs.length=zs.length:=by have:=pe.length_eq;rw [av] at this;exact this
 have sl:=af fD (.lst ((qs.map (·.1)).map V.str));refine⟨.ref D,_,I2.QI (t':=tk) keep (λm' hm=>?_) hD fD (show cK X.prog X.w _ _ _ (.lst ((qs.map (·.1)).map V.str)) from ⟨by rw [av,av];exact fits (by omega),qs.map (λp=>Value.str p.1 p.2),cnt,uy qs,by rw [<-eo];simpa using gD⟩),rfl,q1 D (qs.map (·.1)) _ (λb o n hb=>sl _ _ (st b o n hb)) ?_ fD1 pe ps ae⟩
 .have:=F'.ns;have e:m'=m:=by
   obtain⟨o,es,ep,ho,Cf,_,hf⟩:=hm;obtain⟨o2,es2,LA,AL,Rt,_,Rn⟩:=xt;rw [ho] at AL;cases AL;rw [Cf] at Rt;cases Rt
   funext x
   rw [<-hf x,<-Rn x]
  rw [e];exact this
 obtain⟨SX,b1,b2,b3⟩:=TQ;exact⟨SX,sl _ _ b1,b2,b3.imp id λ⟨c3,e3,g3⟩=>⟨c3,e3,sl _ _ g3⟩⟩
end
open PySem M11
def Bb {K:a8}{H:Hp}{p D d:Addr}{zs:List Str}{kvs:List (aL×V)}{g:G}{σ:St}{js:List (Nat×Str)}{Qp:Hp->Prop}(hσ:dN ["part"] js σ=[none,aM d])(hp:aR K H p (zs.map V.str))(hz:zs.length<=1000)
  (hd:Rd H d (.dK kvs))(hv:∀z,bf kvs (Sum.inr z)=(g z).map V.int)(ha:∀z∈zs,(g z).isSome=true)(hD:H D=none)(q:∀H2,aB H H2->H2 D=some (.lst ((zs.map λz=>(g z).getD 0).map V.int))->Qp H2) :
  ∃W:Nat->Nat->List V->St->Hp->Prop,(∃m,W 0 m [] (dN ["part"] js σ) (upd H D (.lst []))) /\
 ∀i m ys σ' H,W i m ys σ' H->((oI K p).stop i H/\Qp H)\/((oI K p).go i H/\∃m',m' < m/\∀x H',(oI K p).mD i H x H'->dJ 0 x σ' H' λσ2 H2=>hV σ2 H2 λb H3 =>
  if b=true then Bv (gC 1) (gC 0) σ2 H3 λy H4=>H4 D=some (.lst ys)/\ys.length < sizeLine/\W (i+1) m' (ys++[y]) σ2 (upd H4 D (.lst (ys++[y]))) else W (i+1) m' ys σ2 H3):=by
 refine gA (xs:=zs.map V.str) (λi ys σ2 H2=>ys=(((zs.take i).map λz=>(g z).getD 0).map V.int)/\(∃y0,σ2=[y0,aM d])/\aB H H2/\H2 D=some (.lst ys))
  ⟨rfl,⟨none,hσ⟩,af hD _,ae⟩ (λi ys σ2 H2 _ h=>h.2.2.1.tup hp) (λi x ys σ2 H2 ex h=>?_) (λys σ2 H2 h=>?_)
 .obtain⟨rfl,⟨y0,rfl⟩,sm,hd2⟩:=h;rw [bo] at ex;obtain⟨z,ez,rfl⟩:=cf.mp ex;have li:=(bj.mp ez).1;obtain⟨n,en⟩:=lW.mp (ha z (bZ ez));have hg:bW H2 d (.str z) (some (.int n)):=by
   have:=bW.r (k:=Sum.inr z) (gR.Rd.same hd sm);rw [hv,en] at this;exact this
  refine goN (yB ?_);refine⟨_,rfl,_,rfl,d,_,rfl,hg,hd2,bE (by rw [av,av,dC];omega),?_,⟨_,rfl⟩,?_,ae⟩
  .rw [cP,ez,bF,bF];show _=_++[V.int ((g z).getD 0)];rw [en];rfl
  intro b o hb;rw [ai (λz=>by rw [z,hD] at hb;cases hb)];exact sm b o hb
 obtain⟨rfl,_,sm,hd2⟩:=h;rw [av,cO] at hd2;exact q H2 sm hd2
end L2
namespace gR
open PySem L2 M11
section
def rP (K:a8):Sp:=λvs H Q _=>∃(d r:Addr)(kvs:List (aL×V))(g:G)(ru:au),vs=[.ref d,.ref r]/\Rd H d (.dK kvs)/\(∀z,bf kvs (Sum.inr z)=(g z).map V.int)/\CF K H r ru/\ru.2.length<=8/\(∀z∈ru.2,(g z).isSome=true)/\∀H',aB H H'->Q (.int (aT g ru)) H'
def zR:aI ["sizes","rule"] ["sizes","rule"] (ay pC):=iS rfl rfl rfl rfl (by decide +kernel)
def yh (F:ix K "rule_size" "rule_size" pC f fd)(T:Txt mg):bQ P w K mg base fX 1 f fd ["sizes","rule"] (rP K):=by
 refine F.ok zR (λvs H Q E h=>?_) (λeJ A outer s H vs Q E hr h=>?_)
 .obtain⟨d,r,kvs,g,ru,rfl,_⟩:=h;rfl
 obtain⟨d,r,kvs,g,ru,rfl,hd,hv,⟨p,v1,v2⟩,h8,al,q⟩:=h;have hu:=fV hr;refine⟨_,ak (aQ (aZ fY ar (aF (u6 rfl) rfl T.sum PyProof.Rows.boot_sum (ab (ba ["part"] [(0,"sizes")] rfl (fA (aP bq (pv 1) ar (λ_ _=>rfl))) (a9 rfl rfl) (by decide +kernel) rfl (by decide +kernel)
   (λ_ _ _ _ _=>ao (i:=0) (show (["part","sizes"]:List Str).Nodup by decide +kernel) rfl (bA rfl)) (λ_ _ _ _ _=>bO) (λ_ _ _ _ _=>eG hu (pv 1) (pv 0) (λ_ _=>rfl))) ah)))),?_⟩
 dsimp only [Ba];refine⟨_,rfl,r,_,_,_,rfl,rfl,v1,rfl,p,rfl,⟨_,v2⟩,λD hD=>Bb (g:=g) rfl v2 (by omega) hd hv al hD λH2 s2 e2=>?_⟩;refine⟨D,_,rfl,aG.of e2,_,_,rfl,rfl,?_⟩;exact q H2 s2
end
end gR
namespace M11
open PySem
def xq.at_ {aa:List au}{bx:List (Str×Nat)}(h:xq aa bx):∀(i:Nat)(x:Str) (k:Nat),bx[i]?=some (x,k)->∃bC,aa[k]?=some (x,bC)/\∀p∈bC,p∈(bx.take i).map (·.1):=by
 induction h with
 | nil=>intro i x k e;simp at e
 | @snoc bx k2 ru h e n p ih =>
  intro i x k ei;by_cases hi:i < bx.length
  .rw [qb hi] at ei;obtain⟨bC,a,b⟩:=ih i x k ei;exact⟨bC,a,λq hq=>by rw [qc (i7 hi)];exact b q hq⟩
  have li:=(bj.mp ei).1;rw [bp,d8] at li;have e2:i=bx.length:=by omega
  subst e2;rw [nu (aD _),Nat.sub_self] at ei;cases ei;exact⟨ru.2,e,λq hq=>by rw [List.take_left'];exact p q hq;rfl⟩
end M11
namespace gR
open PySem L2 M11
section
def tH {H:Hp}{p D d:Addr}{zs:List Str}{kvs:List (aL×V)}{σ:St}{js:List (Nat×Str)}{Qp:Hp->Prop}(hσ:dN ["part"] js σ=[none,aM d])(hp:aR K H p (zs.map V.str))(hz:zs.length<=1000)
  (hd:H d=some (.dK kvs))(ha:∀z∈zs,(Sum.inr z:aL)∈kvs.map (·.1))(hD:H D=none)(q:∀ys H2,ys.length=zs.length->aB H H2->H2 D=some (.lst ys)->Qp H2) :
  ∃W:Nat->Nat->List V->St->Hp->Prop,(∃m,W 0 m [] (dN ["part"] js σ) (upd H D (.lst []))) /\
 ∀i m ys σ' H,W i m ys σ' H->((oI K p).stop i H/\Qp H)\/((oI K p).go i H/\∃m',m' < m/\∀x H',(oI K p).mD i H x H'->dJ 0 x σ' H' λσ2 H2=>hV σ2 H2 λb H3 =>
  if b=true then Bv (gC 1) (gC 0) σ2 H3 λy H4=>H4 D=some (.lst ys)/\ys.length < sizeLine/\W (i+1) m' (ys++[y]) σ2 (upd H4 D (.lst (ys++[y]))) else W (i+1) m' ys σ2 H3):=by
 refine gA (xs:=zs.map V.str) (λi ys σ2 H2=>ys.length=i/\(∃y0,σ2=[y0,aM d])/\aB H H2/\H2 D=some (.lst ys))
  ⟨rfl,⟨none,hσ⟩,af hD _,ae⟩ (λi ys σ2 H2 _ h=>h.2.2.1.tup hp) (λi x ys σ2 H2 ex h=>?_) (λys σ2 H2 h=>?_)
 .obtain⟨rfl,⟨y0,rfl⟩,sm,hd2⟩:=h;rw [bo] at ex;obtain⟨z,ez,rfl⟩:=cf.mp ex;have li:=(bj.mp ez).1;obtain⟨v,ev⟩:=lW.mp ((dP kvs (Sum.inr z)).mpr (ha z (bZ ez)));have hg:bW H2 d (.str z) (some v):=by
   have:=bW.k (k:=Sum.inr z) (sm _ _ hd);rw [ev] at this;exact this
  refine goN (yB ?_);refine⟨_,rfl,_,rfl,d,_,rfl,hg,hd2,bE (by omega),by rw [bp];rfl,⟨_,rfl⟩,?_,ae⟩;intro b o hb;rw [ai (λz=>by rw [z,hD] at hb;cases hb)];exact sm b o hb
 obtain⟨e,_,sm,hd2⟩:=h;rw [av] at e;exact q ys H2 e sm hd2
def uD (K:a8):Sp:=λvs H Q _=>∃(R D:Addr)(rs ts:List Addr)(aa:List au)(bx:List (Str×Nat)),vs=[.ref R,.ref D]/\aG K H R (rs.map V.ref)/\bI K H rs aa/\aa.length<=1000/\(∀ru∈aa,ru.2.length<=8)/\aG K H D (ts.map V.ref)/\pT K H ts bx/\xq aa bx/\bx.length<=1000 /\
 ∀(d:Addr)(kvs:List (aL×V))(H':Hp),H d=none->aB H H'->H' d=some (.dK kvs)->kvs.map (·.1)=(bx.map (·.1)).map Sum.inr->Q (.ref d) H'
def lK:aI ["rules","empties","trees","name","number"] ["rules","empties"] (ay sg):=iS rfl rfl rfl rfl (by decide +kernel)
def Au (F:ix K "empty_by_name" "empty_by_name" sg f fd)(T:Txt mg):bQ P w K mg base fX 1 f fd ["rules","empties"] (uD K):=by
 refine F.ok lK (λvs H Q E h=>?_) (λeJ A outer s H vs Q E hr h=>?_)
 .obtain⟨R,D,rs,ts,aa,bx,rfl,_⟩:=h;rfl
 obtain⟨R,D,rs,ts,aa,bx,rfl,hR,cS,br,h8,hD,Z4,Ro,DK,q⟩:=h;have hu:=fV hr;refine⟨_,aj (aC (i:=2) lK.nd rfl (Or.inr rfl) gP)
  (aj (bJ b8 rfl (aX (pv 1)) (fc (n:=2) K rfl (aA (ao (i:=3) lK.nd rfl (bA rfl)) (aA (ao (i:=4) lK.nd rfl (bA rfl)) bU)))
   (ak (iB hu (pv 2) (pv 3) (bR (ab (pv 4) (ab (aV eX rfl T.tup qa (ab (ba ["part"] [(2,"trees")] rfl (fA (aP bq (aP bS (pv 0) (pv 4) (λ_ _=>rfl)) ar (λ_ _=>rfl))) (a9 rfl rfl) (by decide +kernel) rfl (by decide +kernel)
    (λ_ _ _ _ _=>ao (i:=0) (show (["part","trees"]:List Str).Nodup by decide +kernel) rfl (bA rfl)) (λ_ _ _ _ _=>bO) (λ_ _ _ _ _=>eG hu (pv 1) (pv 0) (λ_ _=>rfl))) ah)) ah))) rfl)))
  (ak (aQ (pv 2)))),?_⟩
 nofun
 refine λd zx=>?_;have s1:=af zx (.dK []);have e1:upd H d (.dK []) d=some (.dK []):=ae;generalize upd H d (.dK [])=H1 at s1 e1;refine goN ?_
 ac_rfl
 have lt:=a_ Z4;have ll:=a_ cS;have nd:=Ro.nd;refine⟨_,rfl,D,rfl,⟨_,s1.seq hD⟩,cQ (xs:=ts.map V.ref) (λi σ H3=>∃(kvs:List (aL×V))(y3 y4:Option V),σ=[aM R,aM D,aM d,y3,y4]/\aB H H3/\H3 d=some (.dK kvs)/\kvs.map (·.1)=((bx.take i).map (·.1)).map Sum.inr) ⟨[],_,_,rfl,s1,e1,rfl⟩ ?_ ?_ ?_⟩
 .rintro i σ H3 _ ⟨kvs,y3,y4,rfl,s3,_⟩;exact s3.seq hD
 .rintro i x σ H3 ex ⟨kvs,y3,y4,rfl,s3,ed,ek⟩
  ac_nf0
  rw [bo] at ex;obtain⟨t,et,rfl⟩:=cf.mp ex;have li:=(bj.mp et).1;obtain⟨e,ee⟩:∃e,bx[i]?=some e:=⟨bx[i]'(by omega),b9 (by omega)⟩;obtain⟨t',et',vt⟩:=Paired.at_ Z4 i e ee;rw [et] at et';cases et';obtain⟨x,k⟩:=e;obtain⟨bC,hk,ZR⟩:=Ro.at_ i x k ee;obtain⟨r,er,p,v1,v2⟩:=Paired.at_ cS k _ hk;have Bf:lQ (rs.map V.ref) (k:Int)=some (.ref r):=b_ (by rw [bo,er];rfl);have ZS:bC.length<=8:=h8 _ (bZ hk);refine⟨t,_,rfl,s3.tup vt,rfl,_,_,rfl,_,_,rfl,rfl,?_⟩;refine⟨_,rfl,_,rfl,_,rfl,R,_,_,_,rfl,rfl,s3.seq hR,Bf,r,_,_,_,rfl,rfl,s3.tup v1,rfl,p,rfl,⟨_,s3.tup v2⟩,λD2 i4=>tH (zs:=bC) rfl (s3.tup v2) (by omega) ed (λz hz=>by rw [ek];exact cM.mpr (ZR z hz)) i4 λys H4 ly s4 e4=>?_⟩;refine⟨D2,ys,rfl,.inl ⟨aG.of e4,λt2 NW=>⟨oJ,λuf DW=>?_⟩⟩⟩;have k5:=(af NW (.tup ys)).trans (af DW (.tup [.int (k:Int),.ref t2]));generalize upd (upd H4 t2 (.tup ys)) uf (.tup [.int (k:Int),.ref t2])=H5 at k5;have ed5:=k5 _ _ (s4 _ _ ed);have lkv:kvs.length=i:=by
   have:=congrArg List.length ek;rw [av,av,av,dC] at this;omega
  have nx:x∉(bx.take i).map (·.1):=λz=>by
   obtain⟨e2,m2,q2⟩:=cx.mp z;obtain⟨j,hj⟩:=iw m2;rw [List.getElem?_take] at hj
   split at hj
   .rename_i ZZ
    have a1:(bx.map (·.1))[j]?=some x:=by rw [bo,hj];exact congrArg some q2
    have a2:(bx.map (·.1))[i]?=some x:=by rw [bo,ee];rfl
    have:=(List.getElem?_inj (by rw [av];omega) nd).mp (a1.trans a2.symm);omega
   cases hj
  refine⟨_,rfl,_,rfl,d,_,rfl,.inl ⟨kvs,Sum.inr x,ed5,rfl,bE (by omega),rfl⟩,?_⟩;refine⟨_,_,_,rfl,λb o hb=>?_,ae,?_⟩
  .rw [ai (λz=>by rw [z,zx] at hb;cases hb)];exact k5 _ _ (s4 _ _ (s3 b o hb))
  rw [iA (by rw [ek];exact λz=>nx (cM.mp z)),ek,cP,ee,bF,bF];rfl
 rintro σ H3 ⟨kvs,y3,y4,rfl,s3,ed,ek⟩;rw [av,lt,cO] at ek;exact⟨_,rfl,q d kvs H3 zx s3 ed ek⟩
end
end gR
namespace M11
open PySem
def Le (g' g:G):Prop:=∀z n,g z=some n->∃m,g' z=some m/\m<=n
def yG {g:G}{ru:au}(f:cT bl g ru=true):lI g ru=true/\∀n,g ru.1=some n->aT g ru < n:=by
 unfold cT at f;rw [kR] at f;refine⟨f.1,λn e=>?_⟩;have:=f.2;rw [e] at this;have:(!(some n:Option Int).isSome || bl (aT g ru) n)=true:=this
 simpa [bl] using this
def le_step {g:G}{ru:au}(f:cT bl g ru=true):Le (eF g ru.1 (aT g ru)) g:=λz n e=>by
 unfold eF;by_cases c:z=ru.1
 .rw [ax c];subst c;exact⟨_,rfl,Int.le_of_lt ((yG f).2 n e)⟩
 rw [aw c];exact⟨n,e,oM _⟩
theorem Fg {g g':G}(h:Le g' g):∀ps:List Str,(∀p∈ps,(g p).isSome=true)->(∀p∈ps,(g' p).isSome=true)/\(ps.map λp=>(g' p).getD 0).sum<=(ps.map λp=>(g p).getD 0).sum
 | [],_=>⟨λp hp=>(by cases hp),oM _⟩
 | p::r,a=>by
  obtain⟨h1,h2⟩:=Fg h r λq hq=>a q (cV _ hq);obtain⟨n,en⟩:=lW.mp (a p cI);obtain⟨m,em,lm⟩:=h p n en;refine⟨λq hq=>?_,?_⟩
  .rcases bX.mp hq with rfl | hq
   .rw [em];rfl
   exact h1 q hq
  rw [cN,cN,kP,kP,en,em];show m+_<=n+_;omega
def vi {g:G}{ru:au}:lI g ru=true↔∀p∈ru.2,(g p).isSome=true:=by
 unfold lI;rw [gq]
def size_le {g g':G}{ru:au}(h:Le g' g)(a:lI g ru=true):lI g' ru=true/\aT g' ru<=aT g ru:=by
 obtain⟨h1,h2⟩:=Fg h ru.2 (vi.mp a);exact⟨vi.mpr h1,by unfold aT;omega⟩
def Pd (aa:List au) (hs:List Str)(g:G):Prop:=∀h n,g h=some n->h∉hs\/∃ru∈aa,ru.1=h/\lI g ru=true/\aT g ru<=n
def E7 {aa:List au}{hs:List Str}(g:G)(ru:au)(j:Pd aa hs g)(m:ru∈aa)(f:cT bl g ru=true):Pd aa hs (eF g ru.1 (aT g ru)):=λh n e=>by
 have le:=le_step f;by_cases c:h=ru.1
 .have e2:n=aT g ru:=by
   unfold eF at e;rw [ax c] at e;exact(iu e).symm
  obtain⟨a1,a2⟩:=size_le le (yG f).1;exact .inr ⟨ru,m,c.symm,a1,by omega⟩
 have e2:g h=some n:=by
  unfold eF at e;rw [aw c] at e;exact e
 rcases j h n e2 with h1 | ⟨IF,m2,q2,a2,l2⟩
 .exact .inl h1
 obtain⟨b1,b2⟩:=size_le le a2;exact .inr ⟨IF,m2,q2,b1,by omega⟩
def Dx {aa:List au}{hs:List Str}{g0 g:G}(j0:Pd aa hs g0)(st:d_ bl aa g0 g)(se:i5 bl aa g){h:Str}{n:Int}(hh:h∈hs)(e:g h=some n):∃ru∈aa,ru.1=h/\lI g ru=true/\aT g ru=n:=by
 have j:Pd aa hs g:=d_.keep (J:=Pd aa hs) (λg ru j m f=>E7 g ru j m f) st j0;rcases j h n e with z | ⟨ru,m,q,a,l⟩
 .exact absurd hh z
 refine⟨ru,m,q,a,?_⟩;have f:=se ru m;unfold cT at f;rw [a,q,e] at f;have f:(true && (!(some n:Option Int).isSome || bl (aT g ru) n))=false:=f
 have f2:¬aT g ru < n:=by simpa [bl] using f
 omega
theorem B_ {g:G}(nn:NN g):∀(ps:List Str)(p:Str) (m:Int),p∈ps->g p=some m->m<=(ps.map λp=>(g p).getD 0).sum
 | q::r,p,m,hp,e=>by
  rw [cN,kP];have h1:=jE g nn r;rcases bX.mp hp with rfl | hp
  .rw [e];show m<=m+_;omega
  have h2:=B_ nn r p m hp e;have h3:0<=(g q).getD 0:=by
   cases eq:g q with
   | none=>exact oM _
   | some n=>exact nn q n eq
  omega
def C_ {g:G}(nn:NN g){ru:au}{p:Str}{m:Int}(hp:p∈ru.2)(e:g p=some m):m < aT g ru:=by
 have:=B_ nn ru.2 p m hp e;unfold aT;omega
theorem Br:∀(a7 ps bH:List Str),(∀z∈bH,z∉a7)->∀z∈tW a7 bH ps,z∉a7
 | _,[],bH,h=>h
 | a7,p::r,bH,h=>by
  show ∀z∈tW a7 (addW a7 bH p) r,z∉a7;refine Br a7 r _ ?_;unfold addW
  split
  .exact h
  rename_i hp
  unfold ie
  split
  .exact h
  intro z hz;rcases cg.mp hz with hz | hz
  .exact h z hz
  rw [bB.mp hz];exact hp
def vY {g:Str->Int}{zs:List Str}(h:zs.Pairwise λx y=>g x<=g y){i:Nat}{x p:Str}(e:zs[i]?=some x)(hp:p∈zs)(l:g p < g x):p∈zs.take i:=by
 obtain⟨j,ej⟩:=iw hp;obtain⟨li,ei⟩:=bj.mp e;obtain⟨lj,ej2⟩:=bj.mp ej;have ZZ:j < i:=by
  rcases Nat.lt_trichotomy j i with h1 | h1 | h1
  .exact h1
  .subst h1;rw [e] at ej;cases ej;omega
  have:=List.pairwise_iff_getElem.mp h i j li lj h1;rw [ei,ej2] at this;omega
 rw [List.mem_iff_getElem?];exact⟨j,by rw [List.getElem?_take,ax ZZ];exact ej⟩
end M11
namespace gR
open PySem L2 M11
def UH (aa:List au):Pd aa (hd aa) (zu aa):=λh n e=>by
 unfold zu at e;by_cases c:h∈tW (hd aa) [] (aa.flatMap (·.2))
 .exact .inl (Br _ _ [] (λz hz=>by cases hz) h c)
 rw [aw c] at e;cases e
def nn0 (aa:List au):NN (zu aa):=λh n e=>by
 unfold zu at e;by_cases c:h∈tW (hd aa) [] (aa.flatMap (·.2))
 .rw [ax c] at e;cases e;exact oM _
 rw [aw c] at e;cases e
def M6 {aa:List au}{g:G}(st:d_ M11.bl aa (zu aa) g):NN g:=d_.keep (J:=NN) (λg ru j m f=>wI j ru) st (nn0 aa)
theorem vP (a7:List Str):∀(ps bH:List Str)(x:Str),(x∈bH\/(x∈ps/\x∉a7))->x∈tW a7 bH ps
 | [],bH,x,h=>by
  rcases h with h | ⟨h,_⟩
  .exact h
  cases h
 | p::r,bH,x,h=>by
  show x∈tW a7 (addW a7 bH p) r;apply vP a7 r;unfold addW;by_cases c:p∈a7
  .rw [ax c];rcases h with h | ⟨h,n⟩
   .exact .inl h
   rcases bX.mp h with z | z
   .exact absurd (z ▸ c) n
   exact .inr ⟨z,n⟩
  rw [aw c];rcases h with h | ⟨h,n⟩
  .exact .inl ((oH _ _ _).mpr (.inl h))
  rcases bX.mp h with z | z
  .exact .inl ((oH _ _ _).mpr (.inr z))
  exact .inr ⟨z,n⟩
def Qg:List Stmt->Pos
 | [_,_,_,.For _ (.Call _ _ [⟨_,.Lambda _ _ _ pos,_⟩] _) _ _ _,_]=>pos
 | _=>⟨0,0,0,0⟩
abbrev posB:Pos:=Qg (cv nW)
abbrev IH:Str := "least_by_part" ++ ".<locals>." ++ "<lambda>"
section
def pj (K:a8)(T1 T3:Addr):Sp:=λvs H Q _=>∃(R:Addr)(rs:List Addr)(aa:List au),vs=[.ref R]/\aG K H R (rs.map V.ref)/\bI K H rs aa/\aa.length < 64/\(∀ru∈aa,ru.2.length<=8)/\(∀g,d_ M11.bl aa (zu aa) g->i5 M11.bl aa g->∀h∈hd aa,∃n,g h=some n/\n<=60)/\Tab T1 sH.2.2.2 zq H/\Tab T3 posB IH H/\T1≠T3 /\
 ∀(d:Addr)(kvs:List (aL×V))(H':Hp),H d=none->mf T1 T3 H H'->Tab T1 sH.2.2.2 zq H'->Tab T3 posB IH H'->H' d=some (.dK kvs)->(∀z,z∈hd aa->(Sum.inr z:aL)∈kvs.map (·.1))->Q (.ref d) H'
structure LB (K:a8)(rs:List Addr)(aa:List au)(qM:List (aL×V))(ps:List (Str×Addr))(R dz dn T1 T3:Addr)(H5:Hp):Prop where
 hR:aG K H5 R (rs.map V.ref)
 cS:bI K H5 rs aa
 nm:Jd ps (λn=>nums aa n aa.length) H5 dn
 rz:Rd H5 dz (.dK qM)
 t1:Tab T1 sH.2.2.2 zq H5
 t3:Tab T3 posB IH H5
theorem LB.same {rs:List Addr}{aa:List au}{qM:List (aL×V)}{ps:List (Str×Addr)}{R dz dn T1 T3:Addr}{H5 H6:Hp}(h:LB K rs aa qM ps R dz dn T1 T3 H5)(s:aB H5 H6):LB K rs aa qM ps R dz dn T1 T3 H6 :=
 ⟨s.seq h.hR,h.cS.same s,h.nm.same s,gR.Rd.same h.rz s,h.t1.same s,h.t3.same s⟩
def LB.Lg {rs:List Addr}{aa:List au}{qM:List (aL×V)}{ps:List (Str×Addr)}{R dz dn T1 T3 d:Addr}{H5 H6:Hp}{kv:List (aL×V)}(h:LB K rs aa qM ps R dz dn T1 T3 H5)(e:H5 d=some (.dK kv))(n1:dn≠d)(n2:dz≠d)(s:cX d H5 H6):LB K rs aa qM ps R dz dn T1 T3 H6:=by
 have tk:∀a xs,aR K H5 a xs->aR K H6 a xs:=λa xs z=>by
  rcases z with (z | ⟨u,z⟩) | z
  .exact .inl (.inl (s _ _ (λy=>by rw [y,e] at z;cases z) z))
  .exact .inl (.inr ⟨u,s _ _ (λy=>by rw [y,e] at z;cases z) z⟩)
  exact .inr z
 have tb:∀{T':Addr}{pos':Pos}{IG:Str},Tab T' pos' IG H5->Tab T' pos' IG H6:=λ{T' pos' IG} ⟨p,a,b,cc⟩=>⟨p,s _ _ (λy=>by rw [y,e] at a;cases a) a,b,cc.imp id λ⟨c',e1,e2⟩=>⟨c',e1,s _ _ (λy=>by rw [y,e] at e2;cases e2) e2⟩⟩;refine⟨?_,h.cS.keep tk,⟨s _ _ n1 h.nm.hd,h.nm.n1,h.nm.n2,λp hp=>s _ _ (λy=>by have a:=h.nm.lst p hp;rw [y,e] at a;cases a) (h.nm.lst p hp)⟩,?_,tb h.t1,tb h.t3⟩
 .rcases h.hR with (z | ⟨u,z⟩) | z
  .exact .inl (.inl (s _ _ (λy=>by rw [y,e] at z;cases z) z))
  .exact .inl (.inr ⟨u,s _ _ (λy=>by rw [y,e] at z;cases z) z⟩)
  exact .inr z
 rcases h.rz with z | ⟨u,z⟩
 .exact .inl (s _ _ n2 z)
 exact .inr ⟨u,s _ _ n2 z⟩
def LB.P2 {rs:List Addr}{aa:List au}{qM:List (aL×V)}{ps:List (Str×Addr)}{R dz dn T1 T3:Addr}{H5 H6:Hp}(h:LB K rs aa qM ps R dz dn T1 T3 H5)(nT:T1≠T3)(s:cX T3 H5 H6)(t:Tab T3 posB IH H6):LB K rs aa qM ps R dz dn T1 T3 H6:=by
 obtain⟨pt,eT,_⟩:=id h.t3;refine⟨BX s h.t3 h.hR,h.cS.keep λ_ _ z=>Bs s h.t3 z,⟨s _ _ (λy=>by have a:=h.nm.hd;rw [y,eT] at a;cases a) h.nm.hd,h.nm.n1,h.nm.n2,λp hp=>s _ _ (λy=>by have a:=h.nm.lst p hp;rw [y,eT] at a;cases a) (h.nm.lst p hp)⟩,?_,Bt s h.t3 h.t1 nT,t⟩;rcases h.rz with z | ⟨u,z⟩
 .exact .inl (s _ _ (λy=>by rw [y,eT] at z;cases z) z)
 exact .inr ⟨u,s _ _ (λy=>by rw [y,eT] at z;cases z) z⟩
theorem pJ:∀(hs:List Str)(bH:List (aL×V)) (as:List Str),bH.map (·.1)=as.map Sum.inr->(c_ (hs.map λh=>((Sum.inr h:aL),V.str h)) bH).map (·.1)=(M11.xc as hs).map Sum.inr
 | [],bH,as,e=>e
 | h::r,bH,as,e=>pJ r (bK bH (Sum.inr h) (.str h)) (M11.ie as h) (gR.lh e h)
def iE:aI ["rules","numbers","trees","name","least","sizes"] ["rules"] (ay nW):=iS rfl rfl rfl rfl (by decide +kernel)
def As {T1 T3:Addr}(F:ze K "least_by_part" "least_by_part" nW f fd T3)(T:Txt mg)(hB:tV mg base)(hS:mg "sorted"=none)(GH:aE P w K mg base 3 "heads_of" ["rules"] (jF K))(GL:aE P w K mg base 3 "least_sizes" ["rules"] (qF K T1))(GN:aE P w K mg base 3 "numbers_by_name" ["rules"] (Fj K))(GZ:aE P w K mg base 3 "rule_size" ["sizes","rule"] (rP K)):bQ P w K mg base fX 4 f fd ["rules"] (pj K T1 T3):=by
 refine F.ok iE (λvs H Q E h=>?_) (λc A outer s H vs Q E hC hr h=>?_)
 .obtain⟨R,rs,aa,rfl,_⟩:=h;rfl
 obtain⟨R,rs,aa,rfl,hR,cS,br,h8,Hq,Ke,W4,nT,q⟩:=h;have hu:=fV hr;refine⟨_,aj (aC (i:=5) iE.nd rfl (Or.inr rfl) (bc GL hr rfl (ab (pv 0) ah)))
  (aj (aC (i:=1) iE.nd rfl (Or.inr rfl) (bc GN hr rfl (ab (pv 0) ah)))
  (aj (aC (i:=2) iE.nd rfl (Or.inr rfl) (aV (dO rfl) rfl T.A_ fM (ab (ba ["part"] [(1,"numbers")] rfl (B7 (pv 5)) (a9 rfl rfl) (by decide +kernel) rfl (by decide +kernel)
    (λ_ _ _ _ _=>ao (i:=0) (show (["part","numbers"]:List Str).Nodup by decide +kernel) rfl (bA rfl)) (λ_ _ _ _ _=>hJ (dG (dW hu (pv 0) (pv 1)))) (λ_ _ _ _ _=>bR (ab (pv 0) (ab (pv 0) ah)))) ah)))
  (aj (bJ b8 rfl (aX (F8 (i:=5) (T:=T3) hr rfl hC hB rfl hS (ab (bc GH hr rfl (ab (pv 0) ah)) ah) rfl rfl (λy hy=>by
    rcases bX.mp hy with h | h
    .cases h
    rcases bX.mp h with h | h
    .cases h;rfl
    cases h) (λq cl pm gF c' us hl=>match us,hl with | [_],_=>rfl) rfl rfl rfl (by decide +kernel) rfl rfl)) (ao (i:=3) iE.nd rfl (Or.inr rfl))
   (aj (jK (iy:=4) ["number"] [(5,"sizes"),(0,"rules"),(3,"name")] iE.nd rfl rfl rfl (aX (eG hu (pv 1) (pv 3) (λ_ _=>rfl))) (a9 rfl rfl) (by decide +kernel) rfl (by decide +kernel)
    (λ_ _ _ _ _=>ao (i:=0) (show (["number","sizes","rules","name"]:List Str).Nodup by decide +kernel) rfl (bA rfl)) (λ_ _ _ _ _=>hJ (bw iN (bc GZ hr rfl (ab (pv 1) (ab (aP (Ha K) (pv 2) (pv 0) (λ_ _=>rfl)) ah))) (eG hu (pv 1) (pv 3) (λ_ _=>rfl)) (bV _))) (λ_ _ _ _ _=>pv 0))
   (ak (iB hu (pv 2) (pv 3) (bR (ab (aP bS (pv 4) ar (λ_ _=>rfl)) (ab (aV eX rfl T.tup qa (ab (ba ["part"] [(2,"trees")] rfl (fA (aP bq (aP bS (pv 0) (aP bS (pv 4) ar (λ_ _=>rfl)) (λ_ _=>rfl)) ar (λ_ _=>rfl))) (a9 rfl rfl) (by decide +kernel) rfl (by decide +kernel)
    (λ_ _ _ _ _=>ao (i:=0) (show (["part","trees"]:List Str).Nodup by decide +kernel) rfl (bA rfl)) (λ_ _ _ _ _=>bO) (λ_ _ _ _ _=>eG hu (pv 1) (pv 0) (λ_ _=>rfl))) ah)) ah))) rfl))))
  (ak (aQ (pv 2)))))),?_⟩
 nofun
 refine⟨_,rfl,R,rs,aa,rfl,hR,cS,by omega,h8,Ke,λdz qM Ld g H1 fz s1 t1 ez kz vz SN YS lz=>?_⟩;refine goN ?_
 ac_rfl
 have Z9:=BX s1 Ke hR;have Q9:=cS.keep λ_ _ z=>Bs s1 Ke z;have YK:=Bt s1 Ke W4 (fk nT);refine⟨_,rfl,R,rs,aa,rfl,Z9,Q9,by omega,λdn ps H2 fn s2 nm pk pf=>?_⟩;refine goN ?_
 ac_rfl
 have O0:=s2 _ _ ez;refine⟨_,rfl,dz,qM,rfl,O0,λo D hD=>?_⟩;have Vz:∀p∈ps,p.2≠dz:=λp hp z=>by
  have a:=nm.lst p hp;rw [z,O0] at a;cases a
 have ndz:dn≠dz:=λz=>by rw [z,ez] at fn;cases fn
 have nz1:T1≠dz:=λz=>by
  obtain⟨p,a,_⟩:=t1;rw [z,ez] at a;cases a
 have nz3:T3≠dz:=λz=>by
  obtain⟨p,a,_⟩:=YK;rw [z,ez] at a;cases a
 have Px:∀{T':Addr}{pos':Pos}{IG:Str},T'≠dz->Tab T' pos' IG H2->Tab T' pos' IG (upd H2 dz (.ku o (.dK qM))):=λ{T' pos' IG} n ⟨p,a,b,cc⟩=>⟨p,by rw [ai n];exact a,b,cc.imp id λ⟨c',e1,e2⟩=>⟨c',e1,by rw [ai (λz=>by rw [z,O0] at e2;cases e2)];exact e2⟩⟩;have L3:LB K rs aa qM ps R dz dn T1 T3 (upd H2 dz (.ku o (.dK qM))):=by
  refine⟨?_,(Q9.same s2).keep λ_ _ z=>hX O0 z,⟨by rw [ai ndz];exact nm.hd,nm.n1,nm.n2,λp hp=>by rw [ai (Vz p hp)];exact nm.lst p hp⟩,.inr ⟨o,ae⟩,Px nz1 (t1.same s2),Px nz3 (YK.same s2)⟩;rcases s2.seq Z9 with (h | ⟨u,h⟩) | h
  .exact .inl (.inl (by rw [ai (λz=>by rw [z,O0] at h;cases h)];exact h))
  .exact .inl (.inr ⟨u,by rw [ai (λz=>by rw [z,O0] at h;cases h)];exact h⟩)
  exact .inr h
 have e3:upd H2 dz (.ku o (.dK qM)) dz=some (.ku o (.dK qM)):=ae;have CT:mf T1 T3 H (upd H2 dz (.ku o (.dK qM))):=λb u n1 n3 hb=>by
  rw [ai (λz=>by rw [z,fz] at hb;cases hb)];exact s2 _ _ (s1 b u n1 hb)
 generalize upd H2 dz (.ku o (.dK qM))=H3 at hD L3 e3 CT ⊢;have lkz:qM.length=Ld.length:=by
  have:=congrArg List.length kz;rwa [av,av] at this
 refine tM (λi ys σ2 H4=>∃ts:List Addr,ys=ts.map V.ref/\(∃y0,σ2=[y0,aM dn])/\aB H3 H4/\H4 D=some (.lst ys)/\ts.length<=i/\Paired (λt h=>aR K H4 t [.str h,.str h]) ts ((Ld.take i).filter λz=>!decide (z∈hd aa)))
  ⟨[],rfl,⟨none,rfl⟩,af hD _,ae,aD _,.nil⟩ (λi ys σ2 H4 _ h=>?_) (λi kv ys σ2 H4 ex h=>?_) (λys σ2 H4 h=>?_)
 .obtain⟨_,_,_,sm,_⟩:=h;exact sm _ _ e3
 .obtain⟨ts,rfl,⟨y0,rfl⟩,sm,e4,lts,pt⟩:=h;obtain⟨z,ezz,ekz⟩:∃z,Ld[i]?=some z/\kv.1=Sum.inr z:=by
   have a1:(qM.map (·.1))[i]?=some kv.1:=by rw [bo,ex];rfl
   rw [kz,bo] at a1;obtain⟨z,a2,a3⟩:=cf.mp a1;exact⟨z,a2,a3.symm⟩
  rw [ekz];have L4:=L3.same sm;have hin:(bf (ps.map jx) (Sum.inr z)).isSome=decide (z∈hd aa):=by
   rw [m_,dP,decide_eq_true_iff,<-pk];rw [iU];constructor
   .intro h;obtain⟨p,hp,e⟩:=cx.mp h;exact cx.mpr ⟨p,hp,mj e⟩
   intro h;obtain⟨p,hp,e⟩:=cx.mp h;exact cx.mpr ⟨p,hp,congrArg Sum.inr e⟩
  refine goN ?_;refine⟨_,rfl,_,rfl,dn,_,rfl,bW.k (k:=Sum.inr z) L4.nm.hd,_,rfl,?_⟩;rw [hin];have HM:((Ld.take (i+1)).filter λz=>!decide (z∈hd aa))=((Ld.take i).filter λz=>!decide (z∈hd aa))++(if (!decide (z∈hd aa))=true then [z] else []):=by
   rw [cP,ezz,o8]
   congr 1
   by_cases c:z∈hd aa <;> simp [c]
  refine cD (λcc=>?_) (λcc=>?_)
  .refine⟨_,rfl,_,rfl,oJ,λt ht=>?_⟩;have k5:=af ht (.tup [kV (Sum.inr z),kV (Sum.inr z)]);have v5:aR K (upd H4 t (.tup [kV (Sum.inr z),kV (Sum.inr z)])) t [.str z,.str z]:=aR.of ae;generalize upd H4 t (.tup [kV (Sum.inr z),kV (Sum.inr z)])=H5 at k5 v5;have li:=(bj.mp ex).1;have e5:=k5 _ _ e4;refine⟨e5,bE (by rw [av];omega),ts++[t],by rw [bF];rfl,⟨_,rfl⟩,λb u hb=>?_,ae,by rw [bp,d8];omega,?_⟩
   .rw [ai (λz=>by rw [z,hD] at hb;cases hb)];exact k5 _ _ (sm b u hb)
   rw [HM,ax cc];exact gW (Paired.eI pt λ_ _ z=>aW e5 (k5.tup z)) (aW e5 v5)
  refine⟨ts,rfl,⟨_,rfl⟩,sm,e4,by omega,?_⟩;rw [HM,aw cc,ir];exact pt
 obtain⟨ts,rfl,_,s4,e4,lts,pt⟩:=h;rw [lkz,cO] at pt;have ZK:∀z,z∉hd aa->(g z).isSome=true->z∈Ld.filter λz=>!decide (z∈hd aa):=λz hz gz=>by
  refine lS.mpr ⟨?_,by simpa using hz⟩;have a1:(bf qM (Sum.inr z)).isSome=true:=by rw [vz,o7];exact gz
  rw [dP,kz] at a1;exact cM.mp a1
 have lws:(Ld.filter λz=>!decide (z∈hd aa)).length<=20000:=dH (rE _ _) (by omega);generalize Ld.filter (λz=>!decide (z∈hd aa))=ws at pt ZK lws;have kp:Paired (λt (kv:aL×V)=>aR K H4 t [kV kv.1,kv.2]) ts (ws.map λh=>((Sum.inr h:aL),V.str h)):=cq pt λ_ _ z=>z;refine⟨D,ts,_,rfl,e4,kp,λdt Cf=>?_⟩;have kt:∀z∈ws,(Sum.inr z:aL)∈(c_ (ws.map λh=>((Sum.inr h:aL),V.str h)) []).map (·.1):=λz hz=>by
  rw [pJ ws [] [] rfl];exact cM.mpr ((hU ws [] z).mpr (.inr hz))
 have lkt:(c_ (ws.map λh=>((Sum.inr h:aL),V.str h)) []).length<=20000:=by
  have a:=congrArg List.length (pJ ws [] [] rfl);rw [av,av] at a;have:=iD ws [];simp only [iW] at this;omega
 generalize c_ (ws.map λh=>((Sum.inr h:aL),V.str h)) []=QK at kt lkt;have s5:=s4.trans (af Cf (.dK QK));have e5:upd H4 dt (.dK QK) dt=some (.dK QK):=ae;have Ly:H3 dt=none:=s4.free Cf;generalize upd H4 dt (.dK QK)=H5 at s5 e5;have L5:=L3.same s5;refine goN ?_
 ac_rfl
 refine⟨_,rfl,R,rs,aa,rfl,L5.hR,L5.cS,by omega,λDH H6 fH s6 eH=>?_⟩;have L6:=L5.same s6;have JX:=iD (aa.map (·.1)) [];simp only [iW,av] at JX;have gz:∀z∈hd aa,∃n,g z=some n:=λz hz=>by
  obtain⟨n,e,_⟩:=Hq g SN YS z hz;exact⟨n,e⟩
 refine⟨L6.t3,DH,hd aa,dz,qM,λz=>(g z).getD 0,rfl,aG.of eH,by unfold hd;omega,rfl,L6.rz,λz hz=>by obtain⟨n,e⟩:=gz z hz;rw [vz,e];show _=some (V.int ((g z).getD 0));rw [e];rfl,λl E6 H7 s7 t37 fl pe pw el=>?_⟩;have L7:=L6.P2 nT s7 t37;have VF:dt≠T3:=λz=>by
  obtain⟨p,a,_⟩:=L5.t3;rw [<-z,e5] at a;cases a
 have e7:=s7 _ _ VF (s6 _ _ e5);have Zh:dn≠dt:=λz=>by have a:=L3.nm.hd;rw [z,Ly] at a;cases a
 have Za:dz≠dt:=λz=>by rw [<-z,e3] at Ly;cases Ly
 have IE:mf T1 T3 H H7:=λb u n1 n3 hb=>s7 _ _ n3 (s6 _ _ (s5 _ _ (CT b u n1 n3 hb)));have VC:l≠dt:=λz=>by rw [z,s6 _ _ e5] at fl;cases fl
 have nn:=M6 SN;have hlz:E6.length < 64:=by rw [pe.length_eq];unfold hd;omega
 have Sm:∀ru∈aa,∀p∈ru.2,(g p).isSome=true:=λru iR p hp=>by
  by_cases hh:p∈hd aa
  .obtain⟨n,e⟩:=gz p hh;rw [e];rfl
  have j0:∃n,zu aa p=some n:=⟨0,ax (vP _ _ [] p (.inr ⟨rh.mpr ⟨ru,iR,hp⟩,hh⟩))⟩;have:∃n,g p=some n:=d_.keep (J:=λg=>∃n,g p=some n) (λg ru ⟨n,e⟩ m f=>by obtain⟨k,a,_⟩:=le_step f p n e;exact⟨k,a⟩) SN j0;obtain⟨n,e⟩:=this;rw [e];rfl
 have ll:=a_ cS;refine⟨l,rfl,⟨_,aG.of el⟩,cQ (xs:=E6.map V.str) (λi σ H8=>∃(kvs:List (aL×V))(y3 y4:Option V),σ=[aM R,aM dn,aM dt,y3,y4,aM dz]/\cX dt H7 H8/\H8 dt=some (.dK kvs)/\kvs.length<=20000+i/\(∀z∈ws,(Sum.inr z:aL)∈kvs.map (·.1))/\(∀z∈E6.take i,(Sum.inr z:aL)∈kvs.map (·.1))) ⟨QK,_,_,rfl,λ_ _ _ h=>h,e7,by omega,kt,λz hz=>by cases hz⟩ ?_ ?_ ?_⟩
 .rintro i σ H8 _ ⟨kvs,y3,y4,rfl,s8,_⟩;exact aG.of (s8 _ _ VC el)
 .rintro i x σ H8 ex ⟨kvs,y3,y4,rfl,s8,e8,VU,VZ,QJ⟩
  ac_nf0
  rw [bo] at ex;obtain⟨z,TZ,rfl⟩:=cf.mp ex;have li:=(bj.mp TZ).1;have hz:z∈hd aa:=pe.mem_iff.mp (bZ TZ);obtain⟨n,Xw⟩:=gz z hz;have L8:=L7.Lg e7 Zh Za s8;obtain⟨p,hp,WC⟩:=cx.mp (show z∈ps.map (·.1) by rw [pk];exact hz);refine goN ?_
  ac_rfl
  have hgn:bW H8 dn (.str z) (some (.ref p.2)):=by
   have:=bW.k (k:=Sum.inr z) L8.nm.hd;rw [<-WC,gZ ps L8.nm.n1 p hp] at this;rw [WC] at this;exact this
  have Tz:=L8.nm.lst p hp;have Tz:H8 p.2=some (.lst ((nums aa z aa.length).map V.int)):=by rw [<-WC];exact Tz
  have numOf:∀(m:Nat) (v:Int),(nums aa z aa.length)[m]?=some v->∃(j:Nat)(ru:au),v=(j:Int)/\aa[j]?=some ru/\ru.1=z:=λm v e=>by
   unfold nums at e;rw [bo] at e;obtain⟨j,e1,rfl⟩:=cf.mp e;have hj:=(lS.mp (bZ e1)).2;have hj:(aa[j]?.map (·.1))=some z:=dw hj;obtain⟨ru,e2,e3⟩:=cf.mp hj;exact⟨j,ru,rfl,e2,e3⟩
  have aab:=yi aa z aa.length
  let good:Int->Bool:=λv=>match aa[v.toNat]? with | some ru=>decide (aT g ru=n) | none=>false
  have wit:∃v∈nums aa z aa.length,good v=true:=by
   obtain⟨ru,iR,q1,_,q3⟩:=Dx (UH aa) SN YS hz Xw;obtain⟨j,ej⟩:=iw iR;have lj:=(bj.mp ej).1;refine⟨(j:Int),cx.mpr ⟨j,lS.mpr ⟨jC.mpr lj,bM (by rw [ej];exact congrArg some q1)⟩,rfl⟩,?_⟩;show (match aa[(j:Int).toNat]? with | some ru=>decide (aT g ru=n) | none=>false)=true
   rw [gI,ej];exact bM q3
  refine⟨_,rfl,_,rfl,dn,_,rfl,hgn,p.2,rfl,⟨_,aG.of Tz⟩,λD9 Lu=>cH (xs:=(nums aa z aa.length).map V.int) (λm ys σ2 H9=>ys=(((nums aa z aa.length).take m).filter good).map V.int/\(∃y0,σ2=[y0,aM dz,aM R,some (.str z)])/\aB H8 H9/\H9 D9=some (.lst ys))
   ⟨rfl,⟨none,rfl⟩,af Lu _,ae⟩ (λm ys σ2 H9 _ h=>?_) (λm x ys σ2 H9 em h=>?_) (λys σ2 H9 h=>?_)⟩
  .obtain⟨_,_,sm,_⟩:=h;exact aG.of (sm _ _ Tz)
  .obtain⟨rfl,⟨y0,rfl⟩,sm,e9⟩:=h;rw [bo] at em;obtain⟨v,ev,rfl⟩:=cf.mp em;have lm:=(bj.mp ev).1;obtain⟨j,ru,rfl,ej,T7⟩:=numOf m v ev;have L9:=L8.same sm;obtain⟨r,er,rv⟩:=Paired.at_ L9.cS j ru ej;have Bf:lQ (rs.map V.ref) (j:Int)=some (.ref r):=b_ (by rw [bo,er];rfl);have gj:good (j:Int)=decide (V.int (aT g ru)=V.int n):=by
    show (match aa[(j:Int).toNat]? with | some ru=>decide (aT g ru=n) | none=>false)=_
    rw [gI,ej];show decide (aT g ru=n)=_;by_cases c:aT g ru=n
    .rw [bM c,bM (congrArg V.int c)]
    rw [cU c,cU (λy=>c (by injection y))]
   refine goN ?_;refine⟨_,rfl,_,rfl,_,rfl,R,_,_,_,rfl,rfl,L9.hR,Bf,dz,r,qM,g,ru,rfl,L9.rz,vz,rv,h8 ru (bZ ej),Sm ru (bZ ej),λzz ue=>?_⟩;have hgz:bW zz dz (.str z) (some (.int n)):=by
    have:=bW.r (k:=Sum.inr z) (L9.same ue).rz;rw [vz,Xw] at this;exact this
   refine⟨_,rfl,_,rfl,dz,_,rfl,hgz,rfl,_,rfl,?_⟩;rw [<-gj];have HM:((nums aa z aa.length).take (m+1)).filter good=((nums aa z aa.length).take m).filter good++(if good (j:Int)=true then [(j:Int)] else []):=by
    rw [cP,ev,o8]
    congr 1
    show List.filter good [(j:Int)]=_;by_cases c:good (j:Int)=true
    .rw [ax c,vo,ax c,List.filter_nil]
    rw [aw c,vo,aw c,List.filter_nil]
   have lf:(((nums aa z aa.length).take m).filter good).length<=1000:=dH (rE _ _) (by rw [dC];omega);refine cD (λcc=>?_) (λcc=>?_)
   .refine⟨_,rfl,ue _ _ e9,bE (by rw [av];omega),by rw [HM,ax cc,bF];rfl,⟨_,rfl⟩,λb u hb=>?_,ae⟩;rw [ai (λz=>by rw [z,Lu] at hb;cases hb)];exact ue _ _ (sm b u hb)
   exact⟨by rw [HM,aw cc,ir],⟨_,rfl⟩,sm.trans ue,ue _ _ e9⟩
  obtain⟨rfl,_,s9,e9⟩:=h;rw [av,cO] at e9;refine goN ?_
  ac_rfl
  have L9:=L8.same s9;cases hf:(nums aa z aa.length).filter good with
  | nil =>
   obtain⟨v,hv,gv⟩:=wit;have:v∈(nums aa z aa.length).filter good:=lS.mpr ⟨hv,gv⟩;rw [hf] at this;cases this
  | cons v0 vr =>
   rw [hf] at e9;have hm0:v0∈(nums aa z aa.length).filter good:=by rw [hf];exact cI
   obtain⟨WJ,TF⟩:=lS.mp hm0;obtain⟨m0,Xv⟩:=iw WJ;obtain⟨j,ru,rfl,ej,T7⟩:=numOf m0 v0 Xv;have hsz:aT g ru=n:=by
    have TF:(match aa[(j:Int).toNat]? with | some ru=>decide (aT g ru=n) | none=>false)=true:=TF
    rw [gI,ej] at TF;exact dw TF
   have iR:=bZ ej;obtain⟨r,er,pp,v1,v2⟩:=Paired.at_ L9.cS j ru ej;have Bf:lQ (rs.map V.ref) (j:Int)=some (.ref r):=b_ (by rw [bo,er];rfl);have vh:lQ (V.int (j:Int)::vr.map V.int) 0=some (.int (j:Int)):=b_ (j:=0) rfl;have e9:H9 D9=some (.lst (V.int (j:Int)::vr.map V.int)):=e9;have e89:=s9 _ _ e8;have r8:=h8 ru iR;have V4:∀p∈ru.2,(Sum.inr p:aL)∈kvs.map (·.1):=λy hy=>by
    obtain⟨my,ey⟩:=lW.mp (Sm ru iR y hy);by_cases hh:y∈hd aa
    .refine QJ y (vY pw TZ (pe.mem_iff.mpr hh) ?_);show (g y).getD 0 < (g z).getD 0;rw [ey,Xw];show my < n;rw [<-hsz];exact C_ nn hy ey
    exact VZ y (ZK y hh (by rw [ey];rfl))
   refine⟨_,rfl,D9,_,_,_,rfl,rfl,aG.of e9,vh,_,rfl,_,rfl,D9,_,_,_,rfl,rfl,aG.of e9,vh,R,_,_,_,rfl,rfl,L9.hR,Bf,r,_,_,_,rfl,rfl,v1,rfl,pp,rfl,⟨_,v2⟩,λYy Xf=>tH (zs:=ru.2) rfl v2 (by omega) e89 V4 Xf λys zz ly ue EX=>?_⟩;refine⟨Yy,ys,rfl,.inl ⟨aG.of EX,λt2 NW=>⟨oJ,λuf DW=>?_⟩⟩⟩;have ZC:=(af NW (.tup ys)).trans (af DW (.tup [.int (j:Int),.ref t2]));generalize upd (upd zz t2 (.tup ys)) uf (.tup [.int (j:Int),.ref t2])=zd at ZC;have P8:=(s9.trans ue).trans ZC;have IY:=P8 _ _ e8;refine⟨_,rfl,_,rfl,dt,_,rfl,.inl ⟨kvs,Sum.inr z,IY,rfl,bE (by omega),rfl⟩,?_⟩;have DA:∀y:aL,(y∈kvs.map (·.1)\/y=Sum.inr z)->y∈(bK kvs (Sum.inr z) (.ref uf)).map (·.1):=λy hy=>by
    by_cases hk:(Sum.inr z:aL)∈kvs.map (·.1)
    .rw [Ad hk];rcases hy with hy | rfl
     .exact hy
     exact hk
    rw [iA hk];rcases hy with hy | rfl
    .exact iG _ hy
    exact fS _ cI
   have aag:(bK kvs (Sum.inr z) (.ref uf)).length<=kvs.length+1:=by
    have a:=congrArg List.length (Eq.refl ((bK kvs (Sum.inr z) (.ref uf)).map (·.1)));by_cases hk:(Sum.inr z:aL)∈kvs.map (·.1)
    .have b:=congrArg List.length (Ad (v:=.ref uf) hk);rw [av,av] at b;omega
    have b:=congrArg List.length (iA (v:=.ref uf) hk);rw [av,bp,av,d8] at b;omega
   refine⟨_,_,_,rfl,λb u nb hb=>?_,ae,by omega,λy hy=>DA _ (.inl (VZ y hy)),λy hy=>?_⟩
   .rw [ai nb];exact P8 _ _ (s8 b u nb hb)
   rw [cP,TZ] at hy;rcases cg.mp hy with hy | hy
   .exact DA _ (.inl (QJ y hy))
   exact DA _ (.inr (by rw [bB.mp (show y∈[z] from hy)]))
 rintro σ H8 ⟨kvs,y3,y4,rfl,s8,e8,VU,VZ,QJ⟩;rw [av,cO] at QJ;have L8:=L7.Lg e7 Zh Za s8;refine⟨_,rfl,q dt kvs H8 ?_ (λb u n1 n3 hb=>?_) L8.t1 L8.t3 e8 λz hz=>QJ z (pe.mem_iff.mpr hz)⟩
 .cases c:H dt with
  | none=>rfl
  | some u =>
   by_cases h1:dt=T1
   .obtain⟨pp,a,_⟩:=L3.t1;rw [<-h1,Ly] at a;cases a
   rw [CT dt u h1 VF c] at Ly;cases Ly
 refine s8 _ _ (λz=>?_) (IE b u n1 n3 hb);rw [z] at hb;rw [CT dt u (λy=>n1 (z.trans y)) VF hb] at Ly;cases Ly
end
end gR
namespace L2
open PySem PySem.Spec PyProof.Rows
section
variable {prog:Program}{w:World}{A:Around}{E:Value->Shared->Prop}
def vR {h h':Heap}{ks:List aL}{a:Addr}(p:(tupleKind (bh prog w)).is h ks a)(k:∀b o,o.cls=.type "tuple" -> h.get? b=some o->h'.get? b=some o):(tupleKind (bh prog w)).is h' ks a :=
 let ⟨o,aN,n,h1,h2,h3,h4⟩:=p;⟨o,aN,n,k a o h2 h1,h2,h3,h4⟩
def xb {h h':Heap}{d:Addr}{xs:List (List aL×Addr×Value)}(hd:h.DictOfH (tupleKind (bh prog w)) d xs)(kd:∀o,h.get? d=some o->h'.get? d=some o)(k:∀b o,o.cls=.type "tuple" -> h.get? b=some o->h'.get? b=some o) :
  h'.DictOfH (tupleKind (bh prog w)) d xs :=
 let ⟨o,es,ep,q,c,dd,e,is,n⟩:=hd;⟨o,es,ep,kd o q,c,dd,e,λx hx=>vR (is x hx) k,n⟩
def lR (prog:Program)(w:World)(h:Heap)(u:Value)(kv:List aL×Addr×Value):Prop :=
 ∃t n o,u=.ref t/\(tupleKind (bh prog w)).is h kv.1 kv.2.1/\h.get? t=some o/\o.cls=.type "tuple" /\ o.data=.seq #[.ref kv.2.1,kv.2.2] n
def lR.keep {h h':Heap}{u:Value}{kv:List aL×Addr×Value}(p:lR prog w h u kv)(k:∀b o,o.cls=.type "tuple" -> h.get? b=some o->h'.get? b=some o):lR prog w h' u kv :=
 let ⟨t,n,o,a,b,c,d,e⟩:=p;⟨t,n,o,a,vR b k,k t o d c,d,e⟩
def Co (more xs:List (List aL×Addr×Value)):List (List aL×Addr×Value):=more.foldl (λa p=>storedH a p.1 p.2.1 p.2.2) xs
def Kr {R:Result->Shared->Prop}{d it l:Addr}{items:Array Value}(hh:A.handled=none)(hu:A.units+1 < cLine):∀(more:List (List aL×Addr×Value)) (i:Nat)(s:Shared)(kvs:List (List aL×Addr×Value)) (j:Int)(tk:Tok),items.size=i+more.length ->
  s.heap.DictOfH (tupleKind (bh prog w)) d kvs->s.heap.IsListIter it l i->s.heap.IsList l items->(∀m kv,more[m]?=some kv->∃u,items[i+m]?=some u/\lR prog w s.heap u kv)->kvs.length+more.length<=sizeLine ->
  (∀h' t',h'.DictOfH (tupleKind (bh prog w)) d (Co more kvs)->(∀b o,b≠d->b≠it->s.heap.get? b=some o->h'.get? b=some o)->R (.ok (.ret .none)) { s with heap:=h',toks:=t' }) ->
  codeAny (model prog w) A (.builtin "dict.update.loop" ⟨[.ref d,.ref it,.int j tk,.none],[]⟩) R s:=by
 intro more
 induction more with
 | nil =>
  intro i s kvs j tk hi hd hit hl hp hz hR;refine kK lL ?_;rw [lV fP _];unfold Builtin.«dict.update.loop»;have hs:items[i]?=none:=vL (by rw [hi];exact aD _);refine aq (vG hh hit hl hs λh1 eb=>?_);have nd:d≠it:=λz=>by
   obtain⟨o,_,_,q,_,c,_⟩:=hd;obtain⟨o',q',_,c'⟩:=hit;rw [z,q'] at q;cases q;rw [c'] at c;cases c
  have nt:∀b o,o.cls=.type "tuple" -> s.heap.get? b=some o->b≠it:=λb o c q z=>by
   obtain⟨o',q',c',_⟩:=hit;rw [z,q'] at q;cases q;rw [c'] at c;exact absurd c (by decide)
  show wpAny _ _ (Builtin.Dict.addKeywords d [] >>= _) _ _ _;exact aq (aH (aH (hR h1 s.toks (xb hd (λo q=>eb d o nd q) λb o c q=>eb b o (nt b o c q) q) λb o n1 n2 q=>eb b o n2 q)))
 | cons kv more ih =>
  intro i s kvs j tk hi hd hit hl hp hz hR;refine kK lL ?_;rw [lV fP _];unfold Builtin.«dict.update.loop»;obtain⟨u,QY,t,n,o,rfl,hk,ho,hc,Cf⟩:=hp 0 kv rfl;refine aq (wpAny_pyNext_list_item hit hl QY λh1 Wa sb=>?_);have nd:d≠it:=λz=>by
   obtain⟨o,_,_,q,_,c,_⟩:=hd;obtain⟨o',q',_,c'⟩:=hit;rw [z,q'] at q;cases q;rw [c'] at c;cases c
  have n2:∀b o,(o.cls=.type "tuple" \/ o.cls=.type "list")->s.heap.get? b=some o->b≠d/\b≠it:=by
   intro b o c q;constructor
   .intro z;obtain⟨o',q',c'⟩:=hd.typeIs;rw [z,q'] at q;cases q;rw [c'] at c;rcases c with c | c <;> exact absurd c (by decide)
   intro z;obtain⟨o',q',c',_⟩:=hit;rw [z,q'] at q;cases q;rw [c'] at c;rcases c with c | c <;> exact absurd c (by decide)
  have nt:∀b o,o.cls=.type "tuple" -> s.heap.get? b=some o->b≠d/\b≠it:=λb o c q=>n2 b o (.inl c) q;have nl:l≠d/\l≠it:=by
   obtain⟨o,q,c,_⟩:=hl;exact n2 l o (.inr c) q
  have V1:∀b o,o.cls=.type "tuple" -> s.heap.get? b=some o->h1.get? b=some o:=λb o c q=>(sb.2 b (nt b o c q).2).trans q;have ES:h1.get? t=some o:=V1 t o hc ho;have uT:h1.DictOfH (tupleKind (bh prog w)) d kvs:=xb hd (λo q=>(sb.2 d nd).trans q) V1;refine aq (iV (aq (wpAny_tryCatch ?_)));unfold Builtin.Dict.pairItems;refine aq (jX (T := "tuple") ⟨o,ES,hc⟩ ?_);rw [ax (by decide)];refine aq (mq ES Cf (aH ?_));show wpAny _ _ (holding [.ref kv.2.1,kv.2.2] (dictSet d (.ref kv.2.1) kv.2.2)) _ _ _;rw [dQ] at hz hi;refine iV (wpAny_dictSet_heap (s:={ s with heap:=h1 }) (o6 hu) (vR hk V1) uT (λh2 hd2 P6=>?_) (by omega));have kk:∀b o,b≠d->b≠it->s.heap.get? b=some o->h2.get? b=some o:=λb o n1 n2 q=>(P6.2 b n1).trans ((sb.2 b n2).trans q);have ln:(storedH kvs kv.1 kv.2.1 kv.2.2).length<=kvs.length+1:=by
   unfold storedH
   split
   .simp
   simp
  refine aH ⟨i8 fP _,ih (i+1) _ _ _ _ (by omega) hd2 (Wa.at λo q=>(P6.2 it (fk nd)).trans q) (hl.at λo q=>kk l o nl.1 nl.2 q) (λm V0 e=>?_) (by omega) λh3 t3 je k3=>?_⟩
  .obtain⟨u',e1,e2⟩:=hp (m+1) V0 e;exact⟨u',by rw [<-e1];congr 1;omega,e2.keep λb o c q=>kk b o (nt b o c q).1 (nt b o c q).2 q⟩
  exact hR h3 t3 je λb o n1 n2 q=>k3 b o n1 n2 (kk b o n1 n2 q)
def qC {s:Shared}{l:Addr}{items:Array Value}{n:Nat}{more:List (List aL×Addr×Value)}{Q:Value->Shared->Prop}(hh:A.handled=none)(hu:A.units+2 < cLine)(hx:s.heap.get? l=some { cls:=.type "list",data:=.seq items n })
  (hi:items.size=more.length)(hp:∀(m:Nat) kv,more[m]?=some kv->∃u,items[m]?=some u/\lR prog w s.heap u kv)(hz:more.length<=sizeLine)
  (h:∀h' t',h'.DictOfH (tupleKind (bh prog w)) s.heap.objs.size (Co more [])->(∀b o,s.heap.get? b=some o->h'.get? b=some o)->Q (.ref s.heap.objs.size) { s with heap:=h',toks:=t' }) :
  wpAny (model prog w) A (call (.type "dict") [.ref l]) Q E s:=by
 refine callType_codes (Q₁:=λobj s₁=>obj=.ref s.heap.objs.size/\s₁={ s with heap:=s.heap.push { cls:=.type "dict",data:=.dict #[] } }) F.kt_called_dict (F.kt_typeCall_dict_1 _) F.entry_dict_init (kt_code_dict_new _ ⟨rfl,rfl⟩) ?_;rintro obj s₁ ⟨rfl,rfl⟩;have Ax:(s.heap.push { cls:=.type "dict",data:=.dict #[] }).DictOfH (tupleKind (bh prog w)) s.heap.objs.size []:=Heap.DictOfH.new s.heap;have l0:=bG { cls:=.type "dict",data:=.dict #[] } hx;refine⟨Ax.typeIs,F.args_dict_init_2 _ _,?_⟩;unfold Builtin.«dict.__init__» Builtin.Dict.selfAndRest;refine aq (aq (wpAny_notOrdered_dict Ax.typeIs (aH ?_)));show wpAny _ _ (Builtin.Dict.updateFrom "dict.__init__" s.heap.objs.size (.ref l) [] .none) _ _ _;unfold Builtin.Dict.updateFrom;refine aq (jX (T := "list") ⟨_,l0,rfl⟩ ?_);rw [ax zN];refine aq (pI l0 hh λh1 t1 k1=>?_);refine aq (ik ?_);have l1:=k1 _ _ l0;refine aq (mw ⟨_,l1,rfl,_,rfl⟩ ?_);have k2:∀b o,s.heap.get? b=some o->(h1.push { cls:=.type "list_iterator",data:=.fields #[.ref l,.int 0 0] }).get? b=some o:=λb o q=>bG _ (k1 _ _ (bG _ q));refine aH ⟨i8 fP _,Kr (A:=A.in1) (l:=l) (items:=items) (show A.in1.handled=none from hh) (show A.in1.units+1 < cLine by rw [q8];omega) more 0 _ [] _ _ (by rw [hi,oO]) ?_ ⟨_,cy _ rfl,rfl,rfl⟩ ⟨_,k2 _ _ hx,rfl,n,rfl⟩ (λm kv e=>?_) (by simpa using hz) λh' t' hd k3=>?_⟩
 .exact xb Ax (λo q=>bG _ (k1 _ _ q)) λb o _ q=>bG _ (k1 _ _ q)
 .obtain⟨u,e1,e2⟩:=hp m kv e;exact⟨u,by rw [oO];exact e1,e2.keep λb o _ q=>k2 b o q⟩
 refine⟨rfl,h h' t' hd λb o q=>k3 b o (bD (bu q)) ?_ (k2 b o q)⟩;have:=bu (k1 _ _ (bG { cls:=.type "dict",data:=.dict #[] } q));exact bD this
end
def oA (kvs bH:List (List aL×V)):List (List aL×V):=kvs.foldl (λa p=>bK a p.1 p.2) bH
theorem uV {H:Hp}:∀{kvs:List (List aL×V)}{vs:List (List aL×Addr×Value)}{bH:List (List aL×V)}{Ih:List (List aL×Addr×Value)},KT H kvs vs->KT H bH Ih->KT H (oA kvs bH) (Co vs Ih)
 | _,_,_,_,.nil,h=>h
 | _,_,_,_,.cons (a:=p) (b:=q) r t,h=>by
  obtain⟨e,hb,rv⟩:=r;show KT H (oA _ (bK _ p.1 p.2)) (Co _ (storedH _ q.1 q.2.1 q.2.2));rw [<-e];exact uV t (h.put p.1 hb rv)
theorem uW:∀(kvs bH:List (List aL×V)),(oA kvs bH).length<=bH.length+kvs.length
 | [],bH=>by simp [oA]
 | p::r,bH=>by
  have:=uW r (bK bH p.1 p.2);have:=fK bH p.1 p.2;show (oA r (bK bH p.1 p.2)).length<=_;rw [dQ];omega
section
variable {X:Cx}{ag:List (Addr×Obj)}{σ:St}{H:Hp}{s:Shared}
abbrev Pe (K:a8)(H:Hp)(t:Addr)(kv:List aL×V):Prop:=∃b,aR K H t [.ref b,kv.2]/\H b=some (.tup (kv.1.map kV))
theorem uJ (I:Inv X ag σ H s):∀{ts:List Addr}{kvs:List (List aL×V)}{aN:List Value},Paired (Pe X.K H) ts kvs->aY (ts.map V.ref) aN ->
  ∃vs:List (List aL×Addr×Value),KT H kvs vs/\Paired (λu kv=>lR X.prog X.w s.heap u kv) aN vs
 | [],_,_,.nil,r=>by
  rw [ml] at r;cases r;exact⟨[],.nil,.nil⟩
 | t::ts,kv::kvs,_,.cons h p,r=>by
  rw [cN] at r;cases r with
  | cons r1 r2 =>
   obtain⟨vs,e1,e2⟩:=uJ I p r2;obtain⟨b,h0,hb⟩:=h;obtain⟨aN,rv,⟨o,h1,h2,n,h3⟩,_⟩:=I.tuple h0;obtain⟨u1,u2,rfl,q1,q2⟩:=vals2 rv;cases (show u1=Value.ref b from q1);exact⟨(kv.1,b,u2)::vs,.cons ⟨rfl,hb,q2⟩ e1,.cons ⟨t,n,o,r1,mP I.bY hb,h1,h2,h3⟩ e2⟩
def yX (hc:X.calm=true)(hu:X.A.units+2 < cLine):ig X (.type "dict") (λxs H Q=>∃a ts kvs,xs=[.ref a]/\H a=some (.lst (ts.map V.ref))/\Paired (Pe X.K H) ts kvs/\∀d,H d=none->Q (.ref d) (upd H d (.dT (oA kvs [])))):=by
 intro ag s σ H xs us Q I r h;obtain⟨a,ts,kvs,rfl,e,p,q⟩:=h;obtain⟨u,rfl,rx⟩:=vals1 r;cases (show u=Value.ref a from rx);obtain⟨z,aN,n,rv,ho⟩:=(show cK X.prog X.w H s.heap a (.lst _) from I.bY a _ e);obtain⟨vs,r1,r2⟩:=uJ I p rv;have l1:=a_ r2;have l2:=a_ r1;have l3:=a_ p;rw [av] at z;refine qC (I.ok.hd hc) hu ho (by simpa using l1) (λm kv em=>?_) (by omega) λh' t' hd kk=>?_
 .obtain⟨u,e1,e2⟩:=Paired.at_ r2 m kv em;exact⟨u,by simpa using e1,e2⟩
 have fr:=I.bY.fresh (aD s.heap.objs.size);have new:cK X.prog X.w (upd H s.heap.objs.size (.dT (oA kvs []))) h' s.heap.objs.size (.dT (oA kvs [])):=by
  obtain⟨o,es,ep,hq,h2,h3,h4,_,h5⟩:=hd;refine⟨?_,?_,_,(uV r1 .nil).keeps λc ys ec=>?_,o,es,ep,hq,h2,h3,h4,h5⟩
  .have:=uW kvs [];simp at this;omega
  .have:=I.big;exact kM.mpr (jZ this)
  rw [ai (az ec fr)];exact ec
 exact⟨.ref s.heap.objs.size,_,I.laid (t':=t') kk (aD _) new,rfl,q _ fr⟩
end
open PySem M11
def Eu {K:a8}{H:Hp}{bg D:Addr}{ts:List Addr}{cR:List Be}{σ:St}{x1 x2 x3 x4:Str}{Qp:Hp->Prop}(hb:aG K H bg (ts.map V.ref))(OV:Paired (λt (b:Be)=>aR K H t [.str b.1,.str b.2.1,.int (b.2.2.1:Int),.int (b.2.2.2:Int)]) ts cR)(br:cR.length<=900000)(hD:H D=none)
  (q:∀us H2,aB H H2->H2 D=some (.lst (us.map V.ref))->Paired (λu (b:Be)=>∃v,Pe K H2 u ([Sum.inr b.1,Sum.inr b.2.1],.ref v)) us cR->Qp H2) :
  ∃W:Nat->Nat->List V->St->Hp->Prop,(∃m,W 0 m [] (dN [x1,x2,x3,x4] [] σ) (upd H D (.lst []))) /\
 ∀i m ys σ' H,W i m ys σ' H->((kj K bg).stop i H/\Qp H)\/((kj K bg).go i H/\∃m',m' < m/\∀x H',(kj K bg).mD i H x H'->AW K 4 (jt (dJ 0) (jt (dJ 1) (jt (dJ 2) (jt (dJ 3) DR)))) x σ' H' λσ2 H2=>hV σ2 H2 λb H3 =>
  if b=true then ua (gL (ua (gL (gC 0) (gL (gC 1) rM))) (gL (ua (gL (gC 2) (gL (gC 3) rM))) rM)) σ2 H3 λy H4=>H4 D=some (.lst ys)/\ys.length < sizeLine/\W (i+1) m' (ys++[y]) σ2 (upd H4 D (.lst (ys++[y]))) else W (i+1) m' ys σ2 H3):=by
 have ll:=a_ OV;refine cH (xs:=ts.map V.ref) (λi ys σ2 H2=>∃us:List Addr,ys=us.map V.ref/\us.length=i/\Paired (λu (b:Be)=>∃v,Pe K H2 u ([Sum.inr b.1,Sum.inr b.2.1],.ref v)) us (cR.take i)/\(∃y0 y1 y2 y3,σ2=[y0,y1,y2,y3])/\aB H H2/\H2 D=some (.lst ys))
  ⟨[],rfl,rfl,.nil,⟨none,none,none,none,rfl⟩,af hD _,ae⟩ (λi ys σ2 H2 _ h=>?_) (λi x ys σ2 H2 ex h=>?_) (λys σ2 H2 h=>?_)
 .obtain⟨_,_,_,_,_,sm,_⟩:=h;exact sm.seq hb
 .obtain⟨us,rfl,hu,hp,⟨y0,y1,y2,y3,rfl⟩,sm,hd⟩:=h;rw [bo] at ex;obtain⟨r,er,rfl⟩:=cf.mp ex;have lr:=(bj.mp er).1;obtain⟨b,e1⟩:∃b,cR[i]?=some b:=⟨cR[i]'(by omega),b9 (by omega)⟩;obtain⟨r',RR,v1⟩:=Paired.at_ OV i b e1;rw [er] at RR;cases RR;have li:=(bj.mp e1).1;refine⟨r,_,rfl,sm.tup v1,rfl,_,_,rfl,_,_,rfl,_,_,rfl,_,_,rfl,rfl,?_⟩;refine yB ?_;refine⟨_,rfl,_,rfl,oJ,λk hk=>⟨_,rfl,_,rfl,oJ,λv hv=>⟨oJ,λu ZP=>?_⟩⟩⟩;have s3:=(af hk (.tup [V.str b.1,V.str b.2.1])).trans ((af hv (.tup [V.int (b.2.2.1:Int),V.int (b.2.2.2:Int)])).trans (af ZP (.tup [.ref k,.ref v])));have ek:=((af hv (.tup [V.int (b.2.2.1:Int),V.int (b.2.2.2:Int)])).trans (af ZP (.tup [.ref k,.ref v]))) k _ ae;have eu:aR K (upd (upd (upd H2 k (.tup [V.str b.1,V.str b.2.1])) v (.tup [V.int (b.2.2.1:Int),V.int (b.2.2.2:Int)])) u (.tup [.ref k,.ref v])) u [.ref k,.ref v]:=aR.of ae;generalize upd (upd (upd H2 k (.tup [V.str b.1,V.str b.2.1])) v (.tup [V.int (b.2.2.1:Int),V.int (b.2.2.2:Int)])) u (.tup [.ref k,.ref v])=H4 at s3 ek eu;have EU:=s3 _ _ hd;refine⟨EU,bE (by rw [av];omega),us++[u],by rw [bF];rfl,by rw [bp,hu];rfl,?_,⟨_,_,_,_,rfl⟩,?_,ae⟩
  .rw [cP,e1];have kD:k≠D:=λz=>by rw [z,EU] at ek;cases ek
   exact gW (Paired.eI hp λu' b' ⟨v',bb,p1,p2⟩=>⟨v',bb,aW EU (s3.tup p1),by rw [ai (λz=>by rw [z,hd] at p2;cases p2)];exact s3 _ _ p2⟩) ⟨v,k,aW EU eu,by rw [ai kD];exact ek⟩
  intro c o hc;rw [ai (λz=>by rw [z,hD] at hc;cases hc)];exact s3 _ _ (sm c o hc)
 obtain⟨us,rfl,hu,hp,_,sm,hd⟩:=h;rw [av,ll,cO] at hp;exact q us H2 sm hd hp
theorem F3 {K:a8}{H:Hp}:∀{us:List Addr}{cR:List Be},Paired (λu (b:Be)=>∃v,Pe K H u ([Sum.inr b.1,Sum.inr b.2.1],.ref v)) us cR->∃kvs,Paired (Pe K H) us kvs
 | _,_,.nil=>⟨[],.nil⟩
 | _,_,.cons ⟨v,h⟩ t=>let ⟨kvs,p⟩:=F3 t;⟨_::kvs,.cons h p⟩
end L2
namespace gR
open PySem L2 M11
def Tab.s2 {T T1 T2:Addr}{p p1 p2:Pos}{q q1 q2:Str}{H H':Hp}(h:Tab T p q H)(s:mf T1 T2 H H')(t1:Tab T1 p1 q1 H)(t2:Tab T2 p2 q2 H)(n1:T≠T1)(n2:T≠T2):Tab T p q H':=by
 obtain⟨ps,a,b,c⟩:=h;obtain⟨SX,b1,_⟩:=t1;obtain⟨Y4,b2,_⟩:=t2;refine⟨ps,s _ _ n1 n2 a,b,c.imp id ?_⟩;rintro⟨c',e,g⟩;exact⟨c',e,s _ _ (λz=>by rw [z,b1] at g;cases g) (λz=>by rw [z,b2] at g;cases g) g⟩
def kU {T a C dx:Addr}{pos:Pos}{qu:Str}{H:Hp}{fs:List (Str×V)}{o:HO}(h:Tab T pos qu H)(ha:H a=some (.ins C dx fs)):Tab T pos qu (upd H a o):=by
 obtain⟨ps,p,r,c⟩:=h;refine⟨ps,by rw [ai (λz=>by rw [z,ha] at p;cases p)];exact p,r,c.imp id ?_⟩;rintro⟨c',e,g⟩;exact⟨c',e,by rw [ai (λz=>by rw [z,ha] at g;cases g)];exact g⟩
def Kp (H H':Hp):Prop:=∀b o,H b=some o->(∀ps,o≠.tX ps)->H' b=some o
def Kp.trans {H H1 H2:Hp}(a:Kp H H1)(b:Kp H1 H2):Kp H H2:=λc o h n=>b c o (a c o h n) n
def Kp.of {H H':Hp}(s:aB H H'):Kp H H':=λb o h _=>s b o h
def Kp.of2 {T1 T2:Addr}{p1 p2:Pos}{q1 q2:Str}{H H':Hp}(s:mf T1 T2 H H')(t1:Tab T1 p1 q1 H)(t2:Tab T2 p2 q2 H):Kp H H':=λc o hc hn=>by
 obtain⟨SX,b1,_⟩:=t1;obtain⟨Y4,b2,_⟩:=t2;exact s c o (λz=>by rw [z,b1] at hc;cases hc;exact hn _ rfl) (λz=>by rw [z,b2] at hc;cases hc;exact hn _ rfl) hc
section
theorem Kp.lst {H H':Hp}(k:Kp H H'){a:Addr}{xs:List V}(h:H a=some (.lst xs)):H' a=some (.lst xs):=k a _ h (λ_ z=>by cases z)
def Kp.tup {H H':Hp}(k:Kp H H'){a:Addr}{xs:List V}(h:aR K H a xs):aR K H' a xs:=by
 rcases h with (h | ⟨u,h⟩) | h
 .exact .inl (.inl (k _ _ h (λ_ z=>by cases z)))
 .exact .inl (.inr ⟨u,k _ _ h (λ_ z=>by cases z)⟩)
 exact .inr h
def Kp.seq {H H':Hp}(k:Kp H H'){a:Addr}{xs:List V}(h:aG K H a xs):aG K H' a xs:=by
 rcases h with (h | ⟨u,h⟩) | h
 .exact .inl (.inl (k _ _ h (λ_ z=>by cases z)))
 .exact .inl (.inr ⟨u,k _ _ h (λ_ z=>by cases z)⟩)
 exact .inr h
theorem Kp.aa {H H':Hp}(k:Kp H H'){rs:List Addr}{aa:List au}(h:bI K H rs aa):bI K H' rs aa:=h.keep λ_ _ z=>k.tup z
abbrev zZ:Stmt:=QB sLT 0
structure LC (K:a8)(C:Addr):Prop where
 cls:EG K C
 a1:dZ K C "rules"
 a2:dZ K C "empty"
 a3:dZ K C "least"
 a4:dZ K C "hollow"
 a5:dZ K C "beginnings"
structure E4 (C3 T1 T3:Addr)(H0 H:Hp)(a dx:Addr)(fs:List (Str×V)):Prop where
 sm:mf T1 T3 H0 H
 ia:H a=some (.ins C3 dx fs)
 fa:H0 a=none
 t1:Tab T1 sH.2.2.2 zq H
 t3:Tab T3 posB IH H
 o1:Tab T1 sH.2.2.2 zq H0
 o3:Tab T3 posB IH H0
def E4.kp {C3 T1 T3 a dx:Addr}{H0 H:Hp}{fs:List (Str×V)}(h:E4 C3 T1 T3 H0 H a dx fs):Kp H0 H:=Kp.of2 h.sm h.o1 h.o3
def E4.set {C3 T1 T3 a dx:Addr}{H0 H:Hp}{fs:List (Str×V)}(h:E4 C3 T1 T3 H0 H a dx fs)(IV:List (Str×V)):E4 C3 T1 T3 H0 (upd H a (.ins C3 dx IV)) a dx IV :=
 ⟨λb o n1 n3 hb=>by rw [ai (λz=>by rw [z,h.fa] at hb;cases hb)];exact h.sm b o n1 n3 hb,ae,h.fa,kU h.t1 h.ia,kU h.t3 h.ia,h.o1,h.o3⟩
def E4.next {C3 T1 T3 a dx:Addr}{H0 H H':Hp}{fs:List (Str×V)}(h:E4 C3 T1 T3 H0 H a dx fs)(s:aB H H'):E4 C3 T1 T3 H0 H' a dx fs :=
 ⟨λb o n1 n3 hb=>s _ _ (h.sm b o n1 n3 hb),s _ _ h.ia,h.fa,h.t1.same s,h.t3.same s,h.o1,h.o3⟩
def E4.Qs {C3 T1 T3 a dx:Addr}{H0 H H':Hp}{fs:List (Str×V)}(h:E4 C3 T1 T3 H0 H a dx fs)(s:mf T1 T3 H H')(t1:Tab T1 sH.2.2.2 zq H')(t3:Tab T3 posB IH H'):E4 C3 T1 T3 H0 H' a dx fs :=
 ⟨λb o n1 n3 hb=>s _ _ n1 n3 (h.sm b o n1 n3 hb),Kp.of2 s h.t1 h.t3 _ _ h.ia (λ_ z=>by cases z),h.fa,t1,t3,h.o1,h.o3⟩
def BN (K:a8)(C C3 T1 T3:Addr):Sp:=λvs H Q _=>∃(H0 Hb:Hp)(a dx R x e d bg:Addr)(rs:List Addr)(aa:List au)(kE:List (aL×V))(bx:List (Str×Nat))(ps:List (Str×Addr))(cR:List Be),vs=[.ref a,.ref R,.ref x]/\aB H0 H/\H0 a=none/\H a=some (.ins C3 dx [])/\aG K H0 R (rs.map V.ref)/\bI K H0 rs aa /\
 aa.length < 64/\(∀ru∈aa,ru.2.length<=8)/\(∀g,d_ M11.bl aa (zu aa) g->i5 M11.bl aa g->∀h∈hd aa,∃n,g h=some n/\n<=60)/\uu K C Hb H0 x e d bg kE bx ps cR/\xq aa bx/\cR.length<=80000/\Tab T1 sH.2.2.2 zq H0/\Tab T3 posB IH H0/\T1≠T3 /\
 ∀H',mf T1 T3 H0 H'->Tab T1 sH.2.2.2 zq H'->Tab T3 posB IH H'->Q .eU H'
def Jq:aI ["self","rules","begin_table"] ["self","rules","begin_table"] (ay zZ):=iS rfl rfl rfl rfl (by decide +kernel)
def Gr {C C3 T1 T3:Addr}(F:ix K "__init__" "LeastTrees.__init__" zZ f fd)(T:Txt mg)(B:BC K C)(L:LC K C3)(GL:aE P w K mg base 4 "least_by_part" ["rules"] (pj K T1 T3))(GE:aE P w K mg base 4 "empty_by_name" ["rules","empties"] (uD K)) :
  bQ P w K mg base fX 5 f fd ["self","rules","begin_table"] (BN K C C3 T1 T3):=by
 refine F.ok Jq (λvs H Q E h=>?_) (λeJ A outer s H vs Q E hr h=>?_)
 .obtain⟨H0,Hb,a,dx,R,x,e,d,bg,rs,aa,kE,bx,ps,cR,rfl,_⟩:=h;rfl
 obtain⟨H0,Hb,a,dx,R,x,e,d,bg,rs,aa,kE,bx,ps,cR,rfl,s0,f0,ea,hR,cS,br,h8,Hq,S,emp,Nd,t1,t3,nT,q⟩:=h;have hu:=rq (Nat.add_le_add_left (by decide:2<=64) _) hr.units;refine⟨_,aj (gM (pv 0) (pv 1) rfl)
  (aj (gM (pv 0) (eZ (pv 2) rfl) rfl)
  (aj (gM (pv 0) (bc GL hr rfl (ab (pv 1) ah)) rfl)
  (aj (gM (pv 0) (bc GE hr rfl (ab (pv 1) (ab (eZ (pv 2) rfl) ah))) rfl)
  (ak (gM (pv 0) (aV (yX rfl hu) rfl T.A_ fM (ab (ba ["name","word","number","place"] [] rfl (aX (eZ (pv 2) rfl)) (a9 rfl rfl) (by decide +kernel) rfl (by decide +kernel)
   (λ_ _ _ _ _=>fc (n:=4) K rfl (aA (ao (i:=0) (show (["name","word","number","place"]:List Str).Nodup by decide +kernel) rfl (bA rfl)) (aA (ao (i:=1) (show (["name","word","number","place"]:List Str).Nodup by decide +kernel) rfl (bA rfl)) (aA (ao (i:=2) (show (["name","word","number","place"]:List Str).Nodup by decide +kernel) rfl (bA rfl)) (aA (ao (i:=3) (show (["name","word","number","place"]:List Str).Nodup by decide +kernel) rfl (bA rfl)) bU))))) (λ_ _ _ _ _=>bO)
   (λ_ _ _ _ _=>bR (ab (bR (ab (pv 0) (ab (pv 1) ah))) (ab (bR (ab (pv 2) (ab (pv 3) ah))) ah)))) ah)) rfl))))),?_⟩
 nofun
 have S0:E4 C3 T1 T3 H0 H a dx []:=⟨λb o _ _ hb=>s0 b o hb,ea,f0,t1.same s0,t3.same s0,t1,t3⟩;obtain⟨e1,te,⟨O9,OX,T5,leb⟩,ee1,evb,_⟩:=S.em;obtain⟨aar,aao,RN,l1,l2,_⟩:=S.ia;rw [T5] at RN;cases RN;obtain⟨tb,ebg,OV⟩:=S.lb;have lets:=emp.len;refine⟨_,rfl,_,rfl,a,C3,dx,[],rfl,S0.ia,L.cls,L.a1,(by show 0 < 1000;decide),?_⟩;have S1:=S0.set (dS "rules" (.ref R) []);generalize TJ:dS "rules" (.ref R) []=TY at S1;generalize upd H a (.ins C3 dx TY)=H1 at S1;have x1:H1 x=some (.ins C O9 OX):=S1.kp _ _ T5 (λ_ z=>by cases z);refine⟨_,rfl,x,C,O9,OX,_,rfl,x1,B.cls,B.a2,l1,_,rfl,a,C3,dx,TY,rfl,S1.ia,L.cls,L.a2,(by rw [<-TJ];show 1 < 1000;decide),?_⟩;have S2:=S1.set (dS "empty" (.ref e) TY);generalize Rn:dS "empty" (.ref e) TY=uk at S2;generalize upd H1 a (.ins C3 dx uk)=H2 at S2;refine⟨_,rfl,R,rs,aa,rfl,S2.kp.seq hR,S2.kp.aa cS,br,h8,Hq,S2.t1,S2.t3,nT,λdl kl H3 fdl s3 zo t33 edl kdl=>?_⟩;have S3:=S2.Qs s3 zo t33;refine⟨_,rfl,a,C3,dx,uk,rfl,S3.ia,L.cls,L.a3,(by rw [<-Rn,<-TJ];show 2 < 1000;decide),?_⟩;have S4:=S3.set (dS "least" (.ref dl) uk);generalize Z3:dS "least" (.ref dl) uk=OY at S4;generalize upd H3 a (.ins C3 dx OY)=H4 at S4;have x4:H4 x=some (.ins C O9 OX):=S4.kp _ _ T5 (λ_ z=>by cases z);refine⟨_,rfl,_,rfl,x,C,O9,OX,_,rfl,x4,B.cls,B.a1,leb,R,e1,rs,te,aa,bx,rfl,S4.kp.seq hR,S4.kp.aa cS,by omega,h8,aG.of (S4.kp.lst ee1),evb.keep λ_ _ z=>S4.kp.tup z,emp,by omega,λdh kh H5 fdh s5 edh kdh=>?_⟩;have S5:=S4.next s5;refine⟨_,rfl,a,C3,dx,OY,rfl,S5.ia,L.cls,L.a4,(by rw [<-Z3,<-Rn,<-TJ];show 3 < 1000;decide),?_⟩;have S6:=S5.set (dS "hollow" (.ref dh) OY);generalize hf6:dS "hollow" (.ref dh) OY=zw at S6;generalize upd H5 a (.ins C3 dx zw)=H6 at S6;have x6:H6 x=some (.ins C O9 OX):=S6.kp _ _ T5 (λ_ z=>by cases z);have b6:=S6.kp.lst ebg;have v6:Paired (λt (b:Be)=>aR K H6 t [.str b.1,.str b.2.1,.int (b.2.2.1:Int),.int (b.2.2.2:Int)]) tb cR:=Paired.eI OV λ_ _ z=>S6.kp.tup z;refine⟨_,rfl,x,C,O9,OX,_,rfl,x6,B.cls,B.a3,l2,bg,rfl,⟨_,aG.of b6⟩,λD7 Xc=>Eu (aG.of b6) v6 (by omega) Xc λus H7 s7 e7 p7=>?_⟩;obtain⟨kvs,pk⟩:=F3 p7;refine⟨D7,us,kvs,rfl,e7,pk,λdb DL=>?_⟩;have S8:=(S6.next s7).next (af DL (.dT (oA kvs [])));refine⟨_,rfl,a,C3,dx,zw,rfl,S8.ia,L.cls,L.a5,(by rw [<-hf6,<-Z3,<-Rn,<-TJ];show 4 < 1000;decide),?_⟩;have S9:=S8.set (dS "beginnings" (.ref db) zw);exact q _ S9.sm S9.t1 S9.t3
structure Iz (K:a8)(x qual:Str)(st:Stmt)(f:Addr)(fd:FuncData):Prop where
 ex:∃(oc:Value)(od:Option Addr)(kV doc pm:Value)(an:Option Addr)(eJ ct:Value)(wG:Array (Option Value))(T:Addr)(o:Obj) (n:Nat),
  fd=PySem.W.fnOf x qual (dA st) (cv st) (ay st) (.ref T) kV doc pm an eJ ct/\K.lookup f=some ⟨oc,od,.func fd,wG⟩/\PySem.W.codeIn K eJ qual=true/\K.lookup T=some o/\o.data=.seq #[.none] n
 kp:PySem.W.keepIn K (.ref f)=true
def Iz.ok {x qual:Str}{st:Stmt}{f:Addr}{fd:FuncData}{N ps:List Str}{k:Nat}{sp:Sp}(F:Iz K x qual st f fd)(S:aI N ps (ay st))(len:∀vs H Q E,sp vs H Q E->vs.length=ps.length)
  (jr:∀(eJ:Value)(A:Around)(outer:List Env)(s:Shared)(H:Hp)(vs:List V)(Q:VK)(E:XK),fg k (A.deeper (PyProof.Rows.envOfC qual (ay st) s.heap.objs.size f eJ))->sp vs H Q E ->
   ∃t,Bj (pR fX P w K mg base N qual (ay st) f eJ A outer s H E).Dt (cv st) t/\t { nx:=λ_ H'=>Q .eU H',rt:=Q } (start N vs) H):bQ P w K mg base fX (k+1) f fd ps sp:=by
 obtain⟨oc,od,kV,doc,pm,an,eJ,ct,wG,T,o,n,rfl,lk,wY,_⟩:=F.ex;refine HK lk wY S len λA outer s H vs Q E hr zr=>?_;obtain⟨t,h,q⟩:=jr eJ A outer s H vs Q E hr zr;exact⟨t,h.Dt,q⟩
def Hy {f:Addr}{fd:FuncData}(F:Iz K "__init__" "Grammar.__init__" wk f fd):Binds K fd ["self","rules","strengths"] [.none]:=by
 obtain⟨oc,od,kV,doc,pm,an,eJ,ct,wG,T,o,n,rfl,lk,wY,lT,dT⟩:=F.ex;intro s us KI hl;have ui:us.length=2:=by
  have:(us++[Value.none]).length=3:=hl;rw [bp] at this;exact Nat.succ.inj this
 match us,ui with
 | [u1,u2],_=>exact BindsTo.of_defaults rfl (KI T o lT) dT rfl rfl
structure GC (K:a8)(C:Addr):Prop where
 cls:EG K C
 a1:dZ K C "rules"
 a2:dZ K C "strengths"
 a3:dZ K C "begin_table"
 a4:dZ K C "standings"
 a5:dZ K C "small_trees"
def StrIn (K:a8)(H:Hp)(sv:V)(ss:List Addr)(str:List au):Prop:=(sv=.eU/\ss=[]/\str=[])\/∃S,sv=.ref S/\aG K H S (ss.map V.ref)/\bI K H ss str
def GrV (H0 H:Hp)(Cg g:Addr)(rs ss:List Addr)(bt:Addr):Prop:=∃gx fs R2 S2,H g=some (.ins Cg gx fs)/\fs.lookup ("rules":Str)=some (.ref R2)/\fs.lookup ("strengths":Str)=some (.ref S2)/\fs.lookup ("begin_table":Str)=some (.ref bt)/\fs.lookup ("start":Str)=none /\
 H R2=some (.lst (rs.map V.ref))/\H S2=some (.lst (ss.map V.ref))/\H0 R2=none/\H0 S2=none
def qp (T1 T2 T3:Addr)(H H':Hp):Prop:=∀b o,b≠T1->b≠T2->b≠T3->H b=some o->H' b=some o
structure CD (T1 T2 T3:Addr)(H:Hp):Prop where
 t1:Tab T1 sH.2.2.2 zq H
 t2:Tab T2 AD.2.2.2 Lc H
 t3:Tab T3 posB IH H
 K_:T1≠T2
 K9:T1≠T3
 K8:T2≠T3
theorem CD.same {T1 T2 T3:Addr}{H H':Hp}(h:CD T1 T2 T3 H)(s:aB H H'):CD T1 T2 T3 H':=⟨h.t1.same s,h.t2.same s,h.t3.same s,h.K_,h.K9,h.K8⟩
def CD.E_ {T1 T2 T3 a C dx:Addr}{H:Hp}{fs:List (Str×V)}{o:HO}(h:CD T1 T2 T3 H)(ha:H a=some (.ins C dx fs)):CD T1 T2 T3 (upd H a o):=⟨kU h.t1 ha,kU h.t2 ha,kU h.t3 ha,h.K_,h.K9,h.K8⟩
def Kp.of3 {T1 T2 T3:Addr}{H H':Hp}(s:qp T1 T2 T3 H H')(t:CD T1 T2 T3 H):Kp H H':=λc o hc hn=>by
 obtain⟨SX,b1,_⟩:=t.t1;obtain⟨Y4,b2,_⟩:=t.t2;obtain⟨ps3,b3,_⟩:=t.t3;exact s c o (λz=>by rw [z,b1] at hc;cases hc;exact hn _ rfl) (λz=>by rw [z,b2] at hc;cases hc;exact hn _ rfl) (λz=>by rw [z,b3] at hc;cases hc;exact hn _ rfl) hc
def BO (K:a8)(Cg C T1 T2 T3:Addr):Sp:=λvs H Q _=>∃(H0:Hp)(g gx R:Addr)(sv:V)(rs ss:List Addr)(aa str:List au)(rk:Str->Nat)(b:Str->Int),vs=[.ref g,.ref R,sv]/\aB H0 H/\H0 g=none/\H g=some (.ins Cg gx [])/\aG K H0 R (rs.map V.ref)/\bI K H0 rs aa/\aa.length < 64/\(∀ru∈aa,ru.2.length<=8)/\aa≠[] /\
 StrIn K H0 sv ss str/\str.length<=1000/\(∀ru∈str,ru.2.length<=8)/\(str.flatMap (·.2)).Nodup/\Good aa rk b/\CD T1 T2 T3 H0 /\
 ∀(bt:Addr)(H':Hp),qp T1 T2 T3 H0 H'->CD T1 T2 T3 H'->GrV H0 H' Cg g rs ss bt->Q .eU H'
def uu.E_ {C:Addr}{H0 H:Hp}{a e d bg:Addr}{kE:List (aL×V)}{bx:List (Str×Nat)}{ps:List (Str×Addr)}{cR:List Be}{g Cg gx:Addr}{fs IV:List (Str×V)}(h:uu K C H0 H a e d bg kE bx ps cR)(hg:H0 g=some (.ins Cg gx fs))(na:a≠g) :
  uu K C (upd H0 g (.ins Cg gx IV)) (upd H g (.ins Cg gx IV)) a e d bg kE bx ps cR:=by
 have Kd:=h.sm _ _ hg;have up:∀c o,c≠g->H c=some o->upd H g (.ins Cg gx IV) c=some o:=λc o n q=>by rw [ai n];exact q
 refine⟨λc o hc=>?_,?_,up _ _ (λz=>by have:=h.he;rw [z,Kd] at this;cases this) h.he,up _ _ (λz=>by have:=h.hd;rw [z,Kd] at this;cases this) h.hd,h.n1,h.n2,λp hp=>?_,?_,?_,?_⟩
 .by_cases z:c=g
  .rw [z,ae] at hc ⊢;exact hc
  rw [ai z] at hc ⊢;exact h.sm _ _ hc
 .obtain⟨dx,fs,q,r⟩:=h.ia;exact⟨dx,fs,up _ _ na q,r⟩
 .obtain⟨⟨kvs,q,r⟩,t1,t2⟩:=h.dk p hp;exact⟨⟨kvs,up _ _ (λz=>by rw [z,Kd] at q;cases q) q,r⟩,by rw [ai (λz=>by rw [z,hg] at t1;cases t1)];exact t1,t2⟩
 .obtain⟨ts,q,r⟩:=h.lb;exact⟨ts,up _ _ (λz=>by rw [z,Kd] at q;cases q) q,Paired.eI r λ_ _ z=>hZ Kd z⟩
 .have t1:=h.fb;rw [ai (λz=>by rw [z,hg] at t1;cases t1)];exact t1
 obtain⟨e1,ts,⟨dx,fs,q1,q2⟩,q3,q4,q5⟩:=h.em;exact⟨e1,ts,⟨dx,fs,up _ _ na q1,q2⟩,up _ _ (λz=>by rw [z,Kd] at q3;cases q3) q3,q4.keep λ_ _ z=>hZ Kd z,q5⟩
def Jt:aI ["self","rules","strengths"] ["self","rules","strengths"] (ay wk):=iS rfl rfl rfl rfl (by decide +kernel)
def Gw {Cg C C3 T1 T2 T3 fB fL:Addr}{fdB fdL:FuncData}(F:Iz K "__init__" "Grammar.__init__" wk f fd)(T:Txt mg)(G:GC K Cg)(GR:aE P w K mg base 6 "refuse_faults" ["rules","strengths"] (rQ K T1 T2))(GS:aE P w K mg base 6 "standings_by_part" ["rules"] (KY K))
  (FB:bQ P w K mg base fX 5 fB fdB ["self","rules"] (BS K C))(MB:Mk K C fB)(BB:Binds K fdB ["self","rules"] [])(mB:mg "BeginTable"=some (.ref C))
  (FL:bQ P w K mg base fX 5 fL fdL ["self","rules","begin_table"] (BN K C C3 T1 T3))(ML:Mk K C3 fL)(BL:Binds K fdL ["self","rules","begin_table"] [])(mL:mg "LeastTrees"=some (.ref C3)):bQ P w K mg base fX 7 f fd ["self","rules","strengths"] (BO K Cg C T1 T2 T3):=by
 refine F.ok Jt (λvs H Q E h=>?_) (λeJ A outer s H vs Q E hr h=>?_)
 .obtain⟨H0,g,gx,R,sv,rs,ss,aa,str,rk,b,rfl,_⟩:=h;rfl
 obtain⟨H0,g,gx,R,sv,rs,ss,aa,str,rk,b,rfl,s0,f0,eg,hR,cS,br,h8,ET,mY,Wo,Wx,Wv,gd,W4,q⟩:=h;refine⟨_,aj (gM (pv 0) (aV cY rfl T.lst dY (ab (pv 1) ah)) rfl)
  (aj (qI (gM (pv 0) (so (dG (Ak (pv 2))) (bz ah) (aV cY rfl T.lst dY (ab (pv 2) ah))) rfl))
  (aj (cA (bc GR hr rfl (ab (eZ (pv 0) rfl) (ab (eZ (pv 0) rfl) ah))))
  (aj (gM (pv 0) (bc GS hr rfl (ab (eZ (pv 0) rfl) ah)) rfl)
  (aj (gM (pv 0) (wD MB FB hr rfl mB BB .nil uI (ab (eZ (pv 0) rfl) ah)) rfl)
  (ak (gM (pv 0) (wD ML FL hr rfl mL BL .nil uI (ab (eZ (pv 0) rfl) (ab (eZ (pv 0) rfl) ah))) rfl)))))),?_⟩
 nofun
 refine⟨_,rfl,R,_,rfl,.inl (s0.seq hR),λR2 IS=>?_⟩;have Xx:=af IS (.lst (rs.map V.ref)) _ _ eg;have s_:upd H R2 (.lst (rs.map V.ref)) R2=some (.lst (rs.map V.ref)):=ae;have YZ:=s0.trans (af IS (.lst (rs.map V.ref)));generalize upd H R2 (.lst (rs.map V.ref))=H1 at Xx s_ YZ;refine⟨_,rfl,g,Cg,gx,[],rfl,Xx,G.cls,G.a1,(by show 0 < 1000;decide),?_⟩;generalize oh:dS "rules" (.ref R2) []=uk;have Kj:upd H1 g (.ins Cg gx uk) R2=some (.lst (rs.map V.ref)):=by rw [ai (λz=>by rw [z,Xx] at s_;cases s_)];exact s_
 have FN:aB H0 (upd H1 g (.ins Cg gx uk)):=λc o hc=>by rw [ai (λz=>by rw [z,f0] at hc;cases hc)];exact YZ c o hc
 have T9:upd H1 g (.ins Cg gx uk) g=some (.ins Cg gx uk):=ae;generalize upd H1 g (.ins Cg gx uk)=H2 at Kj FN T9;refine⟨λσ H3=>σ=[aM g,aM R,some sv]/\∃S2 fs,aB H0 H3/\H3 g=some (.ins Cg gx fs)/\fs=dS "strengths" (.ref S2) uk/\H3 R2=some (.lst (rs.map V.ref))/\H3 S2=some (.lst (ss.map V.ref))/\H0 S2=none,?_,?_⟩
 .have fin:∀S2,H2 S2=none->(λH3=>∃S2 fs,aB H0 H3/\H3 g=some (.ins Cg gx fs)/\fs=dS "strengths" (.ref S2) uk/\H3 R2=some (.lst (rs.map V.ref))/\H3 S2=some (.lst (ss.map V.ref))/\H0 S2=none) (upd (upd H2 S2 (.lst (ss.map V.ref))) g (.ins Cg gx (dS "strengths" (.ref S2) uk)))/\upd H2 S2 (.lst (ss.map V.ref)) g=some (.ins Cg gx uk):=λS2 DO=>by
   have sl:=af DO (.lst (ss.map V.ref));have eS:upd H2 S2 (.lst (ss.map V.ref)) S2=some (.lst (ss.map V.ref)):=ae;have RW:=sl _ _ T9;refine⟨⟨S2,_,λc o hc=>?_,ae,rfl,?_,?_,FN.free DO⟩,RW⟩
   .rw [ai (λz=>by rw [z,f0] at hc;cases hc)];exact sl _ _ (FN c o hc)
   .rw [ai (λz=>by rw [z,T9] at Kj;cases Kj)];exact sl _ _ Kj
   rw [ai (λz=>by rw [z,T9] at DO;cases DO)];exact eS
  rcases mY with ⟨rfl,rfl,rfl⟩ | ⟨S,rfl,hS,Tq⟩
  .refine⟨_,rfl,_,rfl,?_⟩;refine g8 ?_;refine⟨rJ,λS2 DO=>?_⟩;obtain⟨x1,x2⟩:=fin S2 DO;exact⟨_,rfl,g,Cg,gx,uk,rfl,x2,G.cls,G.a2,(by rw [<-oh];show 1 < 1000;decide),rfl,x1⟩
  refine⟨_,rfl,_,rfl,?_⟩;refine dq ?_;refine⟨_,rfl,S,_,rfl,.inl (FN.seq hS),λS2 DO=>?_⟩;obtain⟨x1,x2⟩:=fin S2 DO;exact⟨_,rfl,g,Cg,gx,uk,rfl,x2,G.cls,G.a2,(by rw [<-oh];show 1 < 1000;decide),rfl,x1⟩
 rintro σ H3 ⟨rfl,S2,IU,CT,RW,qz,er3,es3,fS2⟩;have Zp:IU.lookup ("rules":Str)=some (.ref R2):=by rw [qz,<-oh];rfl
 have Td:IU.lookup ("strengths":Str)=some (.ref S2):=by rw [qz,<-oh];rfl
 have Ws:bI K H3 ss str:=by
  rcases mY with ⟨_,rfl,rfl⟩ | ⟨S,_,_,Tq⟩
  .exact .nil
  exact Tq.same CT
 have zo:=W4.same CT;refine⟨_,rfl,g,Cg,gx,IU,_,rfl,RW,G.cls,G.a1,Zp,_,rfl,g,Cg,gx,IU,_,rfl,RW,G.cls,G.a2,Td,R2,S2,rs,ss,aa,str,rk,b,rfl,aG.of er3,cS.same CT,by omega,h8,ET,aG.of es3,Ws,Wo,Wx,Wv,gd,zo.t1,zo.t2,zo.K_,λH4 SS YM YL=>?_⟩;have J0:=Kp.of2 SS zo.t1 zo.t2;have t4:CD T1 T2 T3 H4:=⟨YM,YL,Tab.s2 zo.t3 SS zo.t1 zo.t2 zo.K9.symm zo.K8.symm,zo.K_,zo.K9,zo.K8⟩;have S04:qp T1 T2 T3 H0 H4:=λc o n1 n2 _ hc=>SS c o n1 n2 (CT c o hc);have eg4:=J0 _ _ RW (λ_ z=>by cases z);have er4:=J0.lst er3;have es4:=J0.lst es3;have Q8:bI K H4 rs aa:=J0.aa (cS.same CT);clear YM YL SS zo;refine⟨_,rfl,g,Cg,gx,IU,_,rfl,eg4,G.cls,G.a1,Zp,R2,rs,aa,rfl,aG.of er4,Q8,by omega,h8,λds H5 fds tY=>?_⟩;have O4:=tY _ _ eg4;have er5:=tY _ _ er4;have es5:=tY _ _ es4;have WA:=Q8.same tY;have t5:=t4.same tY;have S05:qp T1 T2 T3 H0 H5:=λc o n1 n2 n3 hc=>tY _ _ (S04 c o n1 n2 n3 hc);refine⟨_,rfl,g,Cg,gx,IU,rfl,O4,G.cls,G.a4,(by rw [qz,<-oh];show 2 < 1000;decide),?_⟩;generalize wX:dS "standings" (.ref ds) IU=zw;have Vw:∀{Hx:Hp}{fx fy:List (Str×V)},Hx g=some (.ins Cg gx fx)->qp T1 T2 T3 H0 Hx->qp T1 T2 T3 H0 (upd Hx g (.ins Cg gx fy)):=λ{Hx fx fy} hg hs c o n1 n2 n3 hc=>by
  rw [ai (λz=>by rw [z,f0] at hc;cases hc)];exact hs c o n1 n2 n3 hc
 have OM:∀{Hx:Hp}{fx fy:List (Str×V)}{b:Addr}{xs:List V},Hx g=some (.ins Cg gx fx)->Hx b=some (.lst xs)->upd Hx g (.ins Cg gx fy) b=some (.lst xs):=λ{Hx fx fy b xs} hg hb=>by
  rw [ai (λz=>by rw [z,hg] at hb;cases hb)];exact hb
 have S06:=Vw (fy:=zw) O4 S05;have Xs:=OM (fy:=zw) O4 er5;have es6:=OM (fy:=zw) O4 es5;have Nu:bI K (upd H5 g (.ins Cg gx zw)) rs aa:=WA.keep λ_ _ z=>hZ O4 z;have t6:CD T1 T2 T3 (upd H5 g (.ins Cg gx zw)):=t5.E_ O4;have RV:upd H5 g (.ins Cg gx zw) g=some (.ins Cg gx zw):=ae;generalize upd H5 g (.ins Cg gx zw)=H6 at S06 Xs es6 Nu t6 RV;have lk6:zw.lookup ("rules":Str)=some (.ref R2):=by rw [<-wX,qz,<-oh];rfl
 refine⟨_,rfl,g,Cg,gx,zw,_,rfl,RV,G.cls,G.a1,lk6,λx dx hx hdx ndx=>?_⟩;have sx:aB H6 (upd (upd H6 dx (.own x)) x (.ins C dx [])):=(af hdx _).trans (af (by rw [ai ndx.symm];exact hx) _);refine⟨H6,x,dx,R2,rs,aa,rfl,sx,hx,ae,aG.of Xs,Nu,by omega,h8,λe d bg kE bx ps cR H7 S7 m7 emp _ _ beg _=>⟨rfl,?_⟩⟩;have O3:=S7.sm _ _ RV;have er7:=S7.sm _ _ Xs;have es7:=S7.sm _ _ es6;have t7:=t6.same S7.sm;have Wz:=Nu.same S7.sm;have S07:qp T1 T2 T3 H0 H7:=λc o n1 n2 n3 hc=>S7.sm _ _ (S06 c o n1 n2 n3 hc);refine⟨_,rfl,g,Cg,gx,zw,rfl,O3,G.cls,G.a3,(by rw [<-wX,qz,<-oh];show 3 < 1000;decide),?_⟩;generalize AO:dS "begin_table" (.ref x) zw=AY;have S08:=Vw (fy:=AY) O3 S07;have Xr:=OM (fy:=AY) O3 er7;have es8:=OM (fy:=AY) O3 es7;have Q7:bI K (upd H7 g (.ins Cg gx AY)) rs aa:=Wz.keep λ_ _ z=>hZ O3 z;have t8:CD T1 T2 T3 (upd H7 g (.ins Cg gx AY)):=t7.E_ O3;have T8:upd H7 g (.ins Cg gx AY) g=some (.ins Cg gx AY):=ae;have B8:uu K C (upd H6 g (.ins Cg gx AY)) (upd H7 g (.ins Cg gx AY)) x e d bg kE bx ps cR:=S7.E_ RV (λz=>by rw [z,RV] at hx;cases hx);generalize upd H7 g (.ins Cg gx AY)=H8 at S08 Xr es8 Q7 t8 T8 B8;have VU:AY.lookup ("rules":Str)=some (.ref R2):=by rw [<-AO,<-wX,qz,<-oh];rfl
 have lb8:AY.lookup ("begin_table":Str)=some (.ref x):=by rw [<-AO,<-wX,qz,<-oh];rfl
 refine⟨_,rfl,g,Cg,gx,AY,_,rfl,T8,G.cls,G.a1,VU,_,rfl,g,Cg,gx,AY,_,rfl,T8,G.cls,G.a3,lb8,λy dy hy hdy ndy=>?_⟩;have sy:aB H8 (upd (upd H8 dy (.own y)) y (.ins C3 dy [])):=(af hdy _).trans (af (by rw [ai ndy.symm];exact hy) _);have Nd:=beg.len (by omega) h8;refine⟨H8,_,y,dy,R2,x,e,d,bg,rs,aa,kE,bx,ps,cR,rfl,sy,hy,ae,aG.of Xr,Q7,br,h8,gd.least,B8,emp,Nd,t8.t1,t8.t3,t8.K9,λH9 U_ U2 t39=>⟨rfl,?_⟩⟩;have Ng:=Kp.of2 U_ t8.t1 t8.t3;have RU:=Ng _ _ T8 (λ_ z=>by cases z);have er9:=Ng.lst Xr;have es9:=Ng.lst es8;have t9:CD T1 T2 T3 H9:=⟨U2,Tab.s2 t8.t2 U_ t8.t1 t8.t3 t8.K_.symm t8.K8,t39,t8.K_,t8.K9,t8.K8⟩;have S09:qp T1 T2 T3 H0 H9:=λc o n1 n2 n3 hc=>U_ _ _ n1 n3 (S08 c o n1 n2 n3 hc);refine⟨_,rfl,g,Cg,gx,AY,rfl,RU,G.cls,G.a5,(by rw [<-AO,<-wX,qz,<-oh];show 4 < 1000;decide),?_⟩;refine q x _ (Vw RU S09) (t9.E_ RU) ⟨gx,_,R2,S2,ae,?_,?_,?_,?_,OM RU er9,OM RU es9,s0.free IS,fS2⟩
 .rw [<-AO,<-wX,qz,<-oh];rfl
 .rw [<-AO,<-wX,qz,<-oh];rfl
 .rw [<-AO,<-wX,qz,<-oh];rfl
 rw [<-AO,<-wX,qz,<-oh];rfl
end
def EN:List Str->Str->Nat
 | [],_=>0
 | a::r,x=>if a=x then 0 else EN r x+1
theorem sL:∀(l:List Str)(x:Str),x∈l->l[EN l x]?=some x
 | [],x,h=>by cases h
 | a::r,x,h=>by
  unfold EN;by_cases c:a=x
  .rw [ax c];exact congrArg some c
  rw [aw c];rcases bX.mp h with e | e
  .exact absurd e.symm c
  rw [List.getElem?_cons_succ];exact sL r x e
theorem n_:∀(l:List Str)(x:Str) (i:Nat),x∈l.take i->EN l x < i
 | [],x,i,h=>by simp at h
 | a::r,x,0,h=>by simp at h
 | a::r,x,i+1,h=>by
  unfold EN;by_cases c:a=x
  .rw [ax c];omega
  rw [aw c];rw [List.take_succ_cons] at h;rcases bX.mp h with e | e
  .exact absurd e.symm c
  have:=n_ r x i e;omega
def qE {l:List Str}{x:Str}{i:Nat}(h:x∈l.take i):∃j,j < i/\l[j]?=some x:=by
 obtain⟨j,hj⟩:=iw h;have lj:=(bj.mp hj).1;rw [dC] at lj;rw [rH (by omega)] at hj;exact⟨j,by omega,hj⟩
def sO {aa:List au}{ru:au}(h:ru∈aa):ru.1∈hd aa:=(hU _ _ _).mpr (.inr (j9 h))
def Ls {aa:List au}{x:Str}(h:x∈hd aa):∃ru∈aa,ru.1=x:=by
 rcases (hU _ _ _).mp h with h | h
 .cases h
 obtain⟨ru,a,b⟩:=cx.mp h;exact⟨ru,a,b⟩
def LD {aa:List au}{x:Str}(h:Em aa x):x∈hd aa:=by
 cases h with
 | mk h _=>exact sO h
def N9 {aa:List au}{bx:List (Str×Nat)}(h:xq aa bx):∀y∈bx.map (·.1),Em aa y:=by
 induction h with
 | nil=>intro y hy;cases hy
 | @snoc bx k ru _ e _ p ih =>
  intro y hy;rw [bF] at hy;rcases cg.mp hy with h | h
  .exact ih y h
  rw [bB.mp h];exact .mk (bZ e) λq hq=>ih q (p q hq)
def G4 {b:Str->Bool}{zs:List Str}{i j:Nat}{x:Str}(h:JW b zs j=true)(e:zs[i]?=some x)(n:i≠j):b x=true:=by
 cases hb:b x with
 | true=>rfl
 | false =>
  have li:=(bj.mp e).1;have m:((i:Nat):Int)∈DX b zs zs.length:=by
   unfold DX;exact cx.mpr ⟨i,lS.mpr ⟨jC.mpr li,by rw [e];show (!(b x))=true;rw [hb];rfl⟩,rfl⟩
  unfold JW at h;rcases Bool.or_eq_true_iff.mp h with h | h
  .rw [<-dw h] at m;cases m
  rw [<-dw h] at m;have:=bB.mp m;omega
theorem Bx {f:Str->Int}{c:Int}:∀(ps:List Str),(∀x∈ps,f x<=c)->(ps.map f).sum<=ps.length * c
 | [],_=>by simp
 | p::r,h=>by
  have h1:=Bx r λx hx=>h x (cV _ hx);have h2:=h p cI;rw [cN,kP,dQ];have:((r.length+1:Nat):Int) * c=(r.length:Int) * c+c:=by rw [Int.natCast_add,Int.add_mul];omega
  omega
structure zc (aa:List au) (ns E M Pl:List Str):Prop where
 n3:ns.length<=3
 xt:∀ru∈aa,ru.1∈ns
 p3:∀ru∈aa,ru.2.length<=3
 eN:E.Nodup
 eNs:∀x∈E,x∈ns
 eO:∀(i:Nat)(h:Str),E[i]?=some h->∃bC,(h,bC)∈aa/\∀p∈bC,p∈E.take i\/p∉hd aa
 eA:∀h∈hd aa,h∈E
 mO:∀(i:Nat)(h:Str),M[i]?=some h->(∃lY,aa[0]?=some lY/\h=lY.1)\/∃ru∈aa,ru.1∈M.take i/\h∈ru.2
 mA:∀h∈hd aa,h∈M
 lN:Pl.Nodup
 Zt:∀x∈Pl,x∈ns
 lO:∀(i:Nat)(h:Str),Pl[i]?=some h->∀ru∈aa,ru.1=h->∀(j:Nat)(z:Str),ru.2[j]?=some z->z∈hd aa->(∀(k:Nat)(y:Str),k≠j->ru.2[k]?=some y->Em aa y)->z∈Pl.take i
 lA:∀h∈hd aa,h∈Pl
def b3:Nat->Int
 | 0=>1
 | 1=>4
 | _=>13
def c3:Nat->Int
 | 0=>0
 | 1=>1
 | _=>4
def LS {i j:Nat}(hi:i < 3)(h:j < i):b3 j<=c3 i:=by
 have:∀i:Nat,i < 3->∀j:Nat,j < i->b3 j<=c3 i:=by decide
 exact this i hi j h
def Si {i:Nat}:1+3 * c3 i=b3 i:=by
 match i with
 | 0=>rfl
 | 1=>rfl
 | _+2=>rfl
def LP {i:Nat}:0<=c3 i:=by
 match i with
 | 0=>decide
 | 1=>decide
 | _+2=>exact(by decide:(0:Int)<=4)
def Ic {i:Nat}:0<=b3 i/\b3 i<=60:=by
 match i with
 | 0=>decide
 | 1=>decide
 | _+2=>exact(by decide:(0:Int)<=13/\(13:Int)<=60)
def K0 {f:Str->Int}{i:Nat}{ps:List Str}(h3:ps.length<=3)(h:∀x∈ps,f x<=c3 i):1+(ps.map f).sum<=b3 i:=by
 have h1:=Bx ps h;have h2:(ps.length:Int) * c3 i<=3 * c3 i:=Int.mul_le_mul_of_nonneg_right (by omega) LP;have:=@Si i;omega
def bP (Pl:List Str)(x:Str):Int:=if x∈Pl then b3 (EN Pl x) else 0
def zc.good {aa:List au}{ns E M Pl:List Str}(O:zc aa ns E M Pl):Good aa (EN Pl) (bP Pl) where
 least g st se:=by
  have QG:E.length<=3:=dH (gy E ns O.eN O.eNs) O.n3;have aU:∀x,x∉hd aa->∀ru∈aa,x∈ru.2->g x=some 0:=by
   intro x nn ru iR hm;refine d_.keep (J:=λg=>g x=some 0) (λg IF j h2 _=>?_) st ?_
   .show eF g IF.1 _ x=some 0;unfold eF;have:x≠IF.1:=λz=>nn (z ▸ sO h2);rw [aw this];exact j
   show zu aa x=some 0;unfold zu;rw [ax (vP _ _ _ _ (.inr ⟨rh.mpr ⟨ru,iR,hm⟩,nn⟩))]
  have key:∀(n i:Nat),i < n->∀h:Str,E[i]?=some h->∃m,g h=some m/\m<=b3 i:=by
   intro n
   induction n with
   | zero=>intro i hi;omega
   | succ n ih =>
    intro i hi h e;have li:=(bj.mp e).1;obtain⟨ps,hm,hp⟩:=O.eO i h e;have hv:∀p∈ps,∃m,g p=some m/\m<=c3 i:=λp uh=>by
     rcases hp p uh with h1 | h1
     .obtain⟨j,lj,ej⟩:=qE h1;obtain⟨m,e1,e2⟩:=ih j (by omega) p ej;exact⟨m,e1,Int.le_trans e2 (LS (by omega) lj)⟩
     exact⟨0,aU p h1 _ hm uh,LP⟩
    have hs:=se _ hm;unfold cT at hs;have a1:lI g (h,ps)=true:=gq.mpr λp hp=>by obtain⟨m,e1,_⟩:=hv p hp;show (g p).isSome=true;rw [e1];rfl
    have s0:aT g (h,ps)<=b3 i:=by
     unfold aT;exact K0 (O.p3 _ hm) λp hp=>by obtain⟨m,e1,e2⟩:=hv p hp;show (g p).getD 0<=_;rw [e1];exact e2
    rw [a1,j4] at hs;cases gn:g h with
    | none=>rw [show g (h,ps).1=none from gn] at hs;cases hs
    | some m =>
     rw [show g (h,ps).1=some m from gn] at hs;refine⟨m,rfl,?_⟩;have:¬aT g (h,ps) < m:=by simpa [M11.bl] using hs
     omega
  intro h hh;obtain⟨i,hi⟩:=iw (O.eA h hh);obtain⟨m,e1,e2⟩:=key (i+1) i (by omega) h hi;exact⟨m,e1,Int.le_trans e2 Ic.2⟩
 met lY ms e0 h0 mc:=by
  have key:∀(n i:Nat),i < n->∀h:Str,M[i]?=some h->h∈ms:=by
   intro n
   induction n with
   | zero=>intro i hi;omega
   | succ n ih =>
    intro i hi h e;rcases O.mO i h e with ⟨r0,e1,e2⟩ | ⟨ru,iR,h1,h2⟩
    .rw [e0] at e1;cases e1;rw [e2];exact h0
    obtain⟨j,lj,ej⟩:=qE h1;exact mc ru (by rw [cO];exact iR) (ih j (by omega) _ ej) h h2
  intro h hh;obtain⟨i,hi⟩:=iw (O.mA h hh);exact key (i+1) i (by omega) h hi
 loop:=by
  rintro bx emp Ed n k j ⟨lY,z0,e1,e2,e3,e4,e5⟩ ru z er ez;rw [er] at e1;obtain rfl:ru=lY:=iu e1;rw [ez] at e3;obtain rfl:z=z0:=iu e3;have iR:=bZ er;have hn:n∈Pl:=O.lA n (e2 ▸ sO iR);refine n_ Pl z _ (O.lO _ n (sL Pl n hn) ru iR e2 j z ez e4 λk' y nk ey=>?_);have:=G4 e5 ey nk;exact N9 emp y (dw this)
 Ul:=by
  refine⟨λz=>?_,λru iR OU=>?_⟩
  .unfold bP
   split
   .exact Ic.1
   decide
  have hn:ru.1∈Pl:=O.lA _ (sO iR);have li:=(bj.mp (sL Pl ru.1 hn)).1;have QG:Pl.length<=3:=dH (gy Pl ns O.lN O.Zt) O.n3;have e:bP Pl ru.1=b3 (EN Pl ru.1):=ax hn;rw [e];refine K0 (O.p3 ru iR) λp hp=>?_;obtain⟨j,ej⟩:=iw hp;have ht:=O.lO _ ru.1 (sL Pl ru.1 hn) ru iR rfl j p ej (LD (OU p hp)) λk' y _ ey=>OU y (bZ ey);have e2:bP Pl p=b3 (EN Pl p):=ax (qS ht);rw [e2];exact LS (by omega) (n_ Pl p _ ht)
 most h hh:=by
  unfold bP
  split
  .exact Ic.2
  decide
end gR
namespace M11
open PySem
def dD (aU:Bool) (a7 e:List Str)(ru:au):List Str:=if ((ru.2.all λp=>decide (p∈e) || (aU && !decide (p∈a7))) && !decide (ru.1∈e))=true then e++[ru.1] else e
def fU (aU:Bool) (a7 e:List Str)(aa:List au):List Str:=aa.foldl (dD aU a7) e
def passes {α:Type}(f:α->α):Nat->α->α
 | 0,a=>a
 | n+1,a=>f (passes f n a)
def cE (aU:Bool)(aa:List au):List Str:=passes (λe=>fU aU (aa.map (·.1)) e aa) aa.length []
structure EO (aU:Bool) (a7:List Str)(aa:List au) (e:List Str):Prop where
 nd:e.Nodup
 ord:∀(i:Nat)(h:Str),e[i]?=some h->∃bC,(h,bC)∈aa/\∀p∈bC,p∈e.take i\/(aU=true/\p∉a7)
def EO.step {aU:Bool}{a7:List Str}{aa:List au}{e:List Str}(h:EO aU a7 aa e){ru:au}(hr:ru∈aa):EO aU a7 aa (dD aU a7 e ru):=by
 unfold dD
 split
 .rename_i c
  obtain⟨c1,c2⟩:=fj.mp c;have Pb:ru.1∉e:=by simpa using c2
  refine⟨j8.mpr ⟨h.nd,by simp,λa ha b hb z=>Pb (by rw [<-bB.mp hb,<-z];exact ha)⟩,λi x hx=>?_⟩;by_cases l:i < e.length
  .rw [qb l] at hx;obtain⟨bC,a,b⟩:=h.ord i x hx;refine⟨bC,a,λp hp=>?_⟩;rw [qc (by omega)];exact b p hp
  have li:=(bj.mp hx).1;rw [bp,d8] at li;have:i=e.length:=by omega
  subst this;rw [nu (aD _),Nat.sub_self] at hx;cases hx;refine⟨ru.2,hr,λp hp=>?_⟩;rw [qc (aD _),cO];have:=gq.mp c1 p hp;simp only [Bool.or_eq_true,decide_eq_true_eq,kR,Bool.not_eq_true',decide_eq_false_iff_not] at this;exact this
 exact h
theorem EO.pass {aU:Bool}{a7:List Str}{aa:List au}:∀(rs:List au){e:List Str},(∀ru∈rs,ru∈aa)->EO aU a7 aa e->EO aU a7 aa (rs.foldl (dD aU a7) e)
 | [],_,_,h=>h
 | ru::rs,_,hs,h=>EO.pass rs (λr hr=>hs r (cV _ hr)) (h.step (hs ru cI))
def HR (aU:Bool)(aa:List au):EO aU (aa.map (·.1)) aa (cE aU aa):=by
 have:∀n,EO aU (aa.map (·.1)) aa (passes (λe=>fU aU (aa.map (·.1)) e aa) n []):=by
  intro n
  induction n with
  | zero=>exact⟨kJ,λi h e=>by cases e⟩
  | succ n ih=>exact EO.pass aa (λ_ h=>h) ih
 exact this _
def uB (aU:Bool) (a7 e:List Str)(ru:au):dD aU a7 e ru=e\/e.length < (dD aU a7 e ru).length:=by
 unfold dD
 split
 .right;simp
 left;rfl
theorem yC (aU:Bool) (a7:List Str):∀(rs:List au) (e:List Str),e.length<=(rs.foldl (dD aU a7) e).length
 | [],_=>aD _
 | ru::rs,e=>by
  have h1:=yC aU a7 rs (dD aU a7 e ru);have h2:=uB aU a7 e ru;show _<=(rs.foldl (dD aU a7) (dD aU a7 e ru)).length;rcases h2 with h | h
  .rw [h] at h1 ⊢;exact h1
  omega
theorem sW (aU:Bool) (a7:List Str):∀(rs:List au) (e:List Str),(rs.foldl (dD aU a7) e=e/\∀ru∈rs,dD aU a7 e ru=e)\/e.length < (rs.foldl (dD aU a7) e).length
 | [],_=>.inl ⟨rfl,λ_ h=>by cases h⟩
 | ru::rs,e=>by
  show (rs.foldl (dD aU a7) (dD aU a7 e ru)=e/\_)\/_ < (rs.foldl (dD aU a7) (dD aU a7 e ru)).length;rcases uB aU a7 e ru with h | h
  .rw [h];rcases sW aU a7 rs e with ⟨a,b⟩ | c
   .refine .inl ⟨a,λr hr=>?_⟩;rcases bX.mp hr with rfl | hr
    .exact h
    exact b r hr
   exact .inr c
  right;have:=yC aU a7 rs (dD aU a7 e ru);omega
theorem iO:∀(l m:List Str),l.Nodup->(∀z∈l,z∈m)->l.length<=m.length
 | [],m,_,_=>fh _
 | x::r,m,hn,hs=>by
  have hx:=hs x cI;have Hn:=ng.mp hn;have:=iO r (m.erase x) Hn.2 λz hz=>(List.mem_erase_of_ne (λe=>Hn.1 (by rw [<-e];exact hz))).mpr (hs z (cV _ hz));rw [List.length_erase_of_mem hx] at this;have:0 < m.length:=List.length_pos_of_mem hx;rw [dQ];omega
def EO.sub {aU:Bool}{a7:List Str}{aa:List au}{e:List Str}(h:EO aU a7 aa e):∀x∈e,x∈aa.map (·.1):=λx hx=>by
 obtain⟨i,hi⟩:=iw hx;obtain⟨bC,a,_⟩:=h.ord i x hi;exact cx.mpr ⟨_,a,rfl⟩
def Eb (aU:Bool)(aa:List au):∀ru∈aa,dD aU (aa.map (·.1)) (cE aU aa) ru=cE aU aa:=by
 have eo:∀n,EO aU (aa.map (·.1)) aa (passes (λe=>fU aU (aa.map (·.1)) e aa) n []):=by
  intro n
  induction n with
  | zero=>exact⟨kJ,λi h e=>by cases e⟩
  | succ n ih=>exact EO.pass aa (λ_ h=>h) ih
 have key:∀n,(passes (λe=>fU aU (aa.map (·.1)) e aa) (n+1) []=passes (λe=>fU aU (aa.map (·.1)) e aa) n []/\∀ru∈aa,dD aU (aa.map (·.1)) (passes (λe=>fU aU (aa.map (·.1)) e aa) n []) ru=passes (λe=>fU aU (aa.map (·.1)) e aa) n [])\/n < (passes (λe=>fU aU (aa.map (·.1)) e aa) (n+1) []).length:=by
  intro n
  induction n with
  | zero =>
   rcases sW aU (aa.map (·.1)) aa [] with h | h
   .exact .inl h
   exact .inr h
  | succ n ih =>
   rcases ih with ⟨a,b⟩ | c
   .left;rw [show passes (λe=>fU aU (aa.map (·.1)) e aa) (n+1+1) []=fU aU (aa.map (·.1)) (passes (λe=>fU aU (aa.map (·.1)) e aa) (n+1) []) aa from rfl,a];exact⟨a,b⟩
   rcases sW aU (aa.map (·.1)) aa (passes (λe=>fU aU (aa.map (·.1)) e aa) (n+1) []) with h | h
   .exact .inl h
   right;have h2:(passes (λe=>fU aU (aa.map (·.1)) e aa) (n+1) []).length < (passes (λe=>fU aU (aa.map (·.1)) e aa) (n+1+1) []).length:=h;omega
 rcases key aa.length with ⟨_,b⟩ | c
 .exact b
 have e1:=eo (aa.length+1);have:=iO _ _ e1.nd e1.sub;rw [av] at this;omega
def oB {aU:Bool}{aa:List au}{ru:au}(hr:ru∈aa)(h:∀p∈ru.2,p∈cE aU aa\/(aU=true/\p∉aa.map (·.1))):ru.1∈cE aU aa:=by
 have:=Eb aU aa ru hr;unfold dD at this;by_cases c:ru.1∈cE aU aa
 .exact c
 rw [ax] at this
 .have:=congrArg List.length this;rw [bp] at this;simp at this
 refine fj.mpr ⟨gq.mpr λp hp=>?_,by simpa using c⟩;simp only [Bool.or_eq_true,decide_eq_true_eq,kR,Bool.not_eq_true',decide_eq_false_iff_not];exact h p hp
def HS {aa:List au}{x:Str}(h:Em aa x):x∈cE false aa:=by
 induction h with
 | mk hr _ ih=>exact oB hr λp hp=>.inl (ih p hp)
end M11
namespace gR
open PySem L2 M11
abbrev FI:Stmt:=top 46
abbrev zY:Stmt:=top 47
abbrev v_:Stmt:=top 48
abbrev wu:Stmt:=top 49
abbrev Fx:Stmt:=top 50
abbrev Fz:Stmt:=top 51
abbrev z6:Stmt:=top 52
abbrev FE:Stmt:=top 53
abbrev FD:Stmt:=top 54
def Yj {zs:List Str}{m:Int}(h:(zs.length:Int)=m)(hm:0 < m) (n:Int):∃z∈zs,lQ (zs.map V.str) (n % m)=some (.str z):=by
 subst h;have h1:=Int.emod_lt_of_pos n hm;have h2:=Int.emod_nonneg n (show (zs.length:Int)≠0 by omega);have l:(n % (zs.length:Int)).toNat < zs.length:=by omega
 have e:n % (zs.length:Int)=(((n % (zs.length:Int)).toNat:Nat):Int):=by omega
 refine⟨zs[(n % (zs.length:Int)).toNat],pW l,?_⟩;have t:lQ (zs.map V.str) (((n % (zs.length:Int)).toNat:Nat):Int)=some (.str zs[(n % (zs.length:Int)).toNat]):=b_ (by rw [bo,b9 l];rfl);rw [<-e] at t;exact t
def ya {α:Type}(i:Nat)(x y z:α):α:=match i with | 0=>x | 1=>y | _=>z
def QC {H:Hp}{L1 L2 L3 LL:Addr}{xs ys zs:List V}(h1:H L1=none)(h2:upd H L1 (.lst xs) L2=none)(h3:upd (upd H L1 (.lst xs)) L2 (.lst ys) L3=none)
  (h4:upd (upd (upd H L1 (.lst xs)) L2 (.lst ys)) L3 (.lst zs) LL=none):aB H (upd (upd (upd (upd H L1 (.lst xs)) L2 (.lst ys)) L3 (.lst zs)) LL (.lst [.ref L1,.ref L2,.ref L3]))/\∀i:Nat,i < 3->∃Li,lQ [V.ref L1,V.ref L2,V.ref L3] (i:Int)=some (.ref Li)/\H Li=none /\
   upd (upd (upd (upd H L1 (.lst xs)) L2 (.lst ys)) L3 (.lst zs)) LL (.lst [.ref L1,.ref L2,.ref L3]) Li=some (.lst (ya i xs ys zs)):=by
 have s1:=af h1 (.lst xs);have s2:=af h2 (.lst ys);have s3:=af h3 (.lst zs);have s4:=af h4 (.lst [.ref L1,.ref L2,.ref L3]);refine⟨s1.trans (s2.trans (s3.trans s4)),λi hi=>?_⟩
 match i,hi with
 | 0,_=>exact⟨L1,rfl,h1,s4 _ _ (s3 _ _ (s2 _ _ ae))⟩
 | 1,_=>exact⟨L2,rfl,s1.free h2,s4 _ _ (s3 _ _ ae)⟩
 | 2,_=>exact⟨L3,rfl,s1.free (s2.free h3),s4 _ _ ae⟩
def Cd (i:Nat):List Str:=ya i ["s","t","u"] ["b","aa","k"] ["a","ab","n"]
def SE (i:Nat):List Str:=ya i ["a","b","c"] ["ab","a","c"] ["b","+","ba"]
def OJ (i j:Nat):List Str:=(Cd i).map λz=>z++FZ "y" j
def JT (i:Nat):ya i [V.str "s",V.str "t",V.str "u"] [V.str "b",V.str "aa",V.str "k"] [V.str "a",V.str "ab",V.str "n"]=(Cd i).map V.str:=by
 match i with
 | 0=>rfl
 | 1=>rfl
 | _+2=>rfl
def Jj (i:Nat):ya i [V.str "a",V.str "b",V.str "c"] [V.str "ab",V.str "a",V.str "c"] [V.str "b",V.str "+",V.str "ba"]=(SE i).map V.str:=by
 match i with
 | 0=>rfl
 | 1=>rfl
 | _+2=>rfl
def GU (i:Nat):(Cd i).length=3:=by
 match i with
 | 0=>rfl
 | 1=>rfl
 | _+2=>rfl
def Mb (i:Nat):(SE i).length=3:=by
 match i with
 | 0=>rfl
 | 1=>rfl
 | _+2=>rfl
def GQ (i:Nat):∀z∈Cd i,z.length<=2:=by
 match i with
 | 0=>decide +kernel
 | 1=>decide +kernel
 | n+2=>exact(by decide +kernel:∀z∈Cd 2,z.length<=2)
def C5 {j:Nat}(h:j < 3):(FZ "y" j).length<=2:=by
 match j,h with
 | 0,_=>decide +kernel
 | 1,_=>decide +kernel
 | 2,_=>decide +kernel
section
def cellAt (ns:List Int) (k:Nat):Int:=(ns[k]?).getD 0
def vX (K:a8):Sp:=λvs H Q _=>∃(a:Addr)(ns:List Int) (k:Nat),vs=[.ref a,.int (k:Int)]/\aG K H a (ns.map V.int)/\ns.length<=1000/\∀n:Int,n=cellAt ns k->Q (.int n) H
def Mv:aI ["_law_script","_law_k"] ["_law_script","_law_k"] (ay FI):=iS rfl rfl rfl rfl (by decide +kernel)
def JQ (F:ix K "_law_cell_at" "_law_cell_at" FI f fd)(T:Txt mg):bQ P w K mg base fX 1 f fd ["_law_script","_law_k"] (vX K):=by
 refine F.ok Mv (λvs H Q E h=>?_) (λeJ A outer s H vs Q E hr h=>?_)
 .obtain⟨a,ns,k,rfl,_⟩:=h;rfl
 obtain⟨a,ns,k,rfl,hS,hn,q⟩:=h;refine⟨_,aj (bT (bw qg (pv 1) (aF aK rfl T.len dI (ab (pv 0) ah)) (bV _)) (ak (aQ (aP bS (pv 0) (pv 1) (λ_ _=>rfl)))) aS) (ak (aQ ar)),?_⟩
 nofun
 refine⟨_,rfl,_,rfl,a,_,rfl,.inl hS,_,_,rfl,rfl,_,rfl,?_⟩;refine cD (λcc=>?_) (λcc=>q 0 ?_)
 rotate_left
 .have ge:¬((k:Int) < ((ns.map V.int).length:Int)):=λz=>cc (bM z);rw [av] at ge;unfold cellAt;rw [p_ (by omega)];rfl
 have lt:=dw cc;rw [av] at lt;have lt':k < ns.length:=by omega
 refine⟨_,rfl,_,rfl,a,_,_,.int ns[k],rfl,rfl,hS,b_ (by rw [bo,b9 lt'];rfl),q _ (by unfold cellAt;rw [b9 lt'];rfl)⟩
def rR:Sp:=λvs H Q _=>∃(c:Int) (m:Nat)(S:Addr) (zs:List Str),vs=[.int c,.int (m:Int),.ref S]/\m<=100/\H S=some (.lst (zs.map V.str))/\0 < zs.length/\zs.length<=1000/\∀(p:Addr) (ps:List Str)(H':Hp),aB H H'->H' p=some (.tup (ps.map V.str))->ps.length=m->(∀x∈ps,x∈zs)->Q (.ref p) H'
def jj:aI ["_law_cell","_law_many","_law_some","_law_parts","_law_seed","_law_k"] ["_law_cell","_law_many","_law_some"] (ay wu):=iS rfl rfl rfl rfl (by decide +kernel)
def Dq (F:ix K "_law_digits" "_law_digits" wu f fd)(T:Txt mg):bQ P w K mg base fX 1 f fd ["_law_cell","_law_many","_law_some"] rR:=by
 refine F.ok jj (λvs H Q E h=>?_) (λeJ A outer s H vs Q E hr h=>?_)
 .obtain⟨c,m,S,zs,rfl,_⟩:=h;rfl
 obtain⟨c,m,S,zs,rfl,hm,hS,Wf,hz1,q⟩:=h;refine⟨_,aj (aC (i:=3) jj.nd rfl (bA rfl) (bz ah))
  (aj (aC (i:=4) jj.nd rfl (bA rfl) (aZ fY (aZ fJ (pv 0) ar) ar))
  (aj (bJ b8 rfl (gu rfl T.CZ (ab (pv 1) ah)) (ao (i:=5) jj.nd rfl (bA rfl))
   (ak (bT (bw ye (pv 0) ar (bV _))
    (aj (cA (gQ fZ gJ gK bL (pv 3) (ab (aP bS (pv 2) (aZ fJ (aZ Am (pv 0) ar) (aF aK rfl T.len dI (ab (pv 2) ah))) (λ_ _=>rfl)) ah)))
    (ak (aC (i:=0) jj.nd rfl (bA rfl) (aZ fQ (aZ Am (pv 0) ar) (aF aK rfl T.len dI (ab (pv 2) ah))))))
    (aj (aC (i:=4) jj.nd rfl (bA rfl) (aZ fJ (aZ Ao (pv 4) ar) ar))
    (ak (cA (gQ fZ gJ gK bL (pv 3) (ab (aP bS (pv 2) (aZ fJ (aZ fQ (pv 4) ar) (aF aK rfl T.len dI (ab (pv 2) ah))) (λ_ _=>rfl)) ah))))))))
  (ak (aQ (aV eX rfl T.tup qa (ab (pv 3) ah)))))),?_⟩
 nofun
 have QW:(0:Int) < (zs.length:Int):=by omega
 refine⟨rJ,λL hL=>?_⟩;have hS1:=af hL (.lst []) _ _ hS;have nS:S≠L:=λz=>by rw [z,hL] at hS;cases hS
 refine⟨_,rfl,_,_,rfl,rfl,(by show (0:Int) < 2147483647;decide),_,_,rfl,rfl,?_⟩;refine⟨_,rfl,(m:Int),rfl,by omega,by omega,?_⟩;rw [gI m];refine g9 (n:=m) (λi σ H2=>∃(c2 c4:Int)(k2:Option V) (ps:List Str),σ=[some (.int c2),some (.int (m:Int)),aM S,aM L,some (.int c4),k2]/\H2=upd H L (.lst (ps.map V.str))/\ps.length=i/\∀x∈ps,x∈zs) ⟨c,_,none,[],rfl,rfl,rfl,λ_ h=>(by cases h)⟩ ?_ ?_
 .rintro i σ H2 hi ⟨c2,c4,k2,ps,rfl,rfl,hp,uh⟩
  ac_nf0
  have eS:upd H L (.lst (ps.map V.str)) S=some (.lst (zs.map V.str)):=by rw [ai nS];exact hS
  refine goN ?_
  ac_nf
  refine⟨_,rfl,_,_,rfl,rfl,_,rfl,?_⟩;refine cD (λ_=>?_) (λ_=>?_)
  .obtain⟨z,QV,ez⟩:=Yj (zs:=zs) rfl QW (c2 - 1);refine⟨_,rfl,.inl ⟨rfl,_,aG.of ae⟩,_,rfl,_,rfl,_,_,rfl,rfl,_,rfl,S,_,rfl,.inl (aG.of eS),_,_,rfl,rfl,?_⟩;rw [av];refine⟨QW,S,_,_,_,rfl,rfl,aG.of eS,ez,L,_,_,rfl,rfl,ae,bE (by rw [av];omega),?_⟩;rw [nE];have eS2:upd H L (.lst (ps.map V.str++[.str z])) S=some (.lst (zs.map V.str)):=by rw [ai nS];exact hS
   refine⟨_,rfl,_,_,rfl,rfl,_,rfl,S,_,rfl,.inl (aG.of eS2),_,_,rfl,rfl,?_⟩;rw [av];refine⟨⟨QW,by show (zs.length:Int) < 1073741824;omega⟩,?_⟩;exact⟨_,_,_,ps++[z],rfl,by rw [bF];rfl,by rw [bp,hp];rfl,λx hx=>(cg.mp hx).elim (uh x) λh=>(bB.mp h) ▸ QV⟩
  refine⟨_,rfl,_,_,rfl,rfl,.inr ⟨by decide,by decide⟩,_,_,rfl,rfl,(by show (0:Int) < 2147483647;decide),?_⟩;obtain⟨z,QV,ez⟩:=Yj (zs:=zs) rfl QW (c4 * 48271 % 2147483647 / 3);refine⟨_,rfl,.inl ⟨rfl,_,aG.of ae⟩,_,rfl,_,rfl,_,_,rfl,rfl,⟨by decide,by decide⟩,_,rfl,S,_,rfl,.inl (aG.of eS),_,_,rfl,rfl,?_⟩;rw [av];refine⟨QW,S,_,_,_,rfl,rfl,aG.of eS,ez,L,_,_,rfl,rfl,ae,bE (by rw [av];omega),?_⟩;rw [nE];exact⟨_,_,_,ps++[z],rfl,by rw [bF];rfl,by rw [bp,hp];rfl,λx hx=>(cg.mp hx).elim (uh x) λh=>(bB.mp h) ▸ QV⟩
 rintro σ H2 ⟨c2,c4,k2,ps,rfl,rfl,hp,uh⟩;refine⟨_,rfl,L,_,rfl,.inl ⟨aG.of ae,λp oK=>?_⟩⟩;exact q p ps _ ((af hL _).trans (af oK _)) ae hp uh
def i3 (c:Int):Nat:=(c / 72 % 3).toNat
def j3 (c:Int):Nat:=(c / 3 % 3).toNat
def k3 (c:Int):Nat:=(1+c % 3).toNat
def Ce (c:Int):i3 c < 3/\c / 72 % 3=(i3 c:Int):=by unfold i3;omega
def G_ (c:Int):j3 c < 3/\c / 3 % 3=(j3 c:Int):=by unfold j3;omega
def Lj (c:Int):1<=k3 c/\k3 c<=3/\1+c % 3=(k3 c:Int):=by unfold k3;omega
def di (c:Int):List Str:=(OJ (i3 c) (j3 c)).take (k3 c)
def iQ (c:Int):List Str:=SE (i3 c)
def GV {i j:Nat}(hi:i < 3)(hj:j < 3):(OJ i j).Nodup/\∀x∈OJ i j,x∉SE i:=by
 match i,j,hi,hj with
 | 0,0,_,_=>decide +kernel
 | 0,1,_,_=>decide +kernel
 | 0,2,_,_=>decide +kernel
 | 1,0,_,_=>decide +kernel
 | 1,1,_,_=>decide +kernel
 | 1,2,_,_=>decide +kernel
 | 2,0,_,_=>decide +kernel
 | 2,1,_,_=>decide +kernel
 | 2,2,_,_=>decide +kernel
def DS (c:Int):(di c).Nodup:=(GV (Ce c).1 (G_ c).1).1.sublist (List.take_sublist _ _)
def DT (c:Int):∀x∈di c,x∉iQ c:=λx hx=>(GV (Ce c).1 (G_ c).1).2 x (qS hx)
def JU (i j:Nat):(OJ i j).length=3:=by unfold OJ;rw [av];exact GU i
def sS (c:Int):1<=(di c).length/\(di c).length<=3:=by
 have:=Lj c;unfold di;rw [dC,JU];omega
def AV (c:Int):(iQ c).length=3:=Mb _
def BK:Sp:=λvs H Q _=>∃(c:Int),vs=[.int c]/\∀(N:Addr)(H':Hp),H N=none->aB H H'->H' N=some (.lst ((di c).map V.str))->Q (.ref N) H'
def BY:aI ["_law_cell","_law_some"] ["_law_cell"] (ay zY):=iS rfl rfl rfl rfl (by decide +kernel)
def Gq (F:ix K "_law_names" "_law_names" zY f fd)(T:Txt mg):bQ P w K mg base fX 1 f fd ["_law_cell"] BK:=by
 refine F.ok BY (λvs H Q E h=>?_) (λeJ A outer s H vs Q E hr h=>?_)
 .obtain⟨c,rfl,_⟩:=h;rfl
 obtain⟨c,rfl,q⟩:=h;refine⟨_,@aj _ _ _ _ _ (@aC _ _ 1 _ _ _ _ BY.nd rfl (bA rfl) (@aP _ _ _ _ _ _ _ bS (@bz _ _ _ _ (@ab _ _ _ _ _ (@bz _ _ _ _ (@ab _ _ _ _ _ (@cC _ _ _ _) (@ab _ _ _ _ _ (@cC _ _ _ _) (@ab _ _ _ _ _ (@cC _ _ _ _) (@ah _) rfl) rfl) rfl)) (@ab _ _ _ _ _ (@bz _ _ _ _ (@ab _ _ _ _ _ (@cC _ _ _ _) (@ab _ _ _ _ _ (@cC _ _ _ _) (@ab _ _ _ _ _ (@cC _ _ _ _) (@ah _) rfl) rfl) rfl)) (@ab _ _ _ _ _ (@bz _ _ _ _ (@ab _ _ _ _ _ (@cC _ _ _ _) (@ab _ _ _ _ _ (@cC _ _ _ _) (@ab _ _ _ _ _ (@cC _ _ _ _) (@ah _) rfl) rfl) rfl)) (@ah _) rfl) rfl) rfl)) (aZ fJ (aZ fQ (pv 0) ar) ar) (λ_ _=>rfl)) rfl (.inr rfl))
  (ak (aQ (ba ["_law_name"] [(0,"_law_cell")] rfl (aX (fI jG (pv 1) g_ (e_ (aZ fY ar (aZ fJ (pv 0) ar))))) (a9 rfl rfl) (by decide +kernel) rfl (by decide +kernel)
   (λ_ _ _ _ _=>ao (i:=0) (show (["_law_name","_law_cell"]:List Str).Nodup by decide +kernel) rfl (bA rfl)) (λ_ _ _ _ _=>bO)
   (λ_ _ _ _ _=>aZ Ap (pv 0) (aZ JH cC (aZ fJ (aZ fQ (pv 1) ar) ar)))))),?_⟩
 nofun
 obtain⟨hi,ei⟩:=Ce c;obtain⟨hj,ej⟩:=G_ c;obtain⟨hk1,hk3,ek⟩:=Lj c;refine⟨KQ,λL1 h1=>⟨KQ,λL2 h2=>⟨KQ,λL3 h3=>⟨KQ,λLL W_=>?_⟩⟩⟩⟩;obtain⟨s1,p1⟩:=QC h1 h2 h3 W_;obtain⟨Li,a1,f1,e1⟩:=p1 (i3 c) hi;rw [JT] at e1;refine⟨_,rfl,_,_,rfl,rfl,⟨by decide,by decide⟩,_,_,rfl,rfl,(by show (0:Int) < 3;decide),?_⟩;refine⟨LL,_,(i3 c:Int),.ref Li,rfl,congrArg V.int ei,aG.of ae,a1,?_⟩;generalize upd (upd (upd (upd H L1 _) L2 _) L3 _) LL _=H1 at s1 e1;refine⟨_,rfl,_,rfl,_,_,rfl,rfl,(by show (0:Int) < 3;decide),_,_,rfl,rfl,_,rfl,Li,_,rfl,aG.of e1,λM hM=>?_⟩;have cut:gp ((Cd (i3 c)).map V.str) none (some (1+c % 3))=((Cd (i3 c)).take (k3 c)).map V.str:=by
  rw [ek];unfold gp;rw [show HT.fu ((Cd (i3 c)).map V.str).length 0 none=0 from rfl,HT.qH,qZ,mn,oP,<-List.take_eq_take_min]
 rw [cut];have s2:=s1.trans (af hM (.lst (((Cd (i3 c)).take (k3 c)).map V.str)));have eM:upd H1 M (.lst (((Cd (i3 c)).take (k3 c)).map V.str)) M=some (.lst (((Cd (i3 c)).take (k3 c)).map V.str)):=ae;generalize upd H1 M (.lst (((Cd (i3 c)).take (k3 c)).map V.str))=H2 at s2 eM;have gN:di c=((Cd (i3 c)).take (k3 c)).map λz=>z++FZ "y" (j3 c):=by
  unfold di OJ;rw [oP]
 refine⟨M,rfl,⟨_,aG.of eM⟩,λD hD=>cH (xs:=((Cd (i3 c)).take (k3 c)).map V.str) (λk ys σ2 H3=>ys=((di c).take k).map V.str/\(∃y0,σ2=[y0,some (.int c)])/\aB H2 H3/\H3 D=some (.lst ys))
    ⟨rfl,⟨none,rfl⟩,af hD _,ae⟩ (λk ys σ2 H3 _ h=>?_) (λk x ys σ2 H3 ex h=>?_) (λys σ2 H3 h=>?_)⟩
 .obtain⟨_,_,sm,_⟩:=h;exact aG.of (sm _ _ eM)
 .obtain⟨rfl,⟨y0,rfl⟩,sm,eD⟩:=h;have lk:=(bj.mp ex).1;rw [av,dC,GU] at lk;rw [bo] at ex;obtain⟨z,ez,rfl⟩:=cf.mp ex;have hz:=GQ (i3 c) z (qS (bZ ez));have hy:=C5 hj;refine goN (yB ?_);refine⟨_,rfl,_,rfl,_,_,rfl,rfl,⟨by decide,by decide⟩,_,_,rfl,rfl,(by show (0:Int) < 3;decide),?_⟩;have ly:("y":Str).length=1:=by decide +kernel
  refine⟨"y",j3 c,rfl,congrArg V.int ej,by omega,ly,_,_,rfl,rfl,fits (by omega),?_⟩;refine⟨eD,bE (by rw [av,dC];omega),?_,⟨_,rfl⟩,λb o hb=>?_,ae⟩
  .have:(di c)[k]?=some (z++FZ "y" (j3 c)):=by rw [gN,bo,ez];rfl
   rw [cP,this,bF];rfl
  rw [ai (λz=>by rw [z,hD] at hb;cases hb)];exact sm b o hb
 obtain⟨rfl,_,sm,eD⟩:=h;rw [qU (by rw [gN,av,av];exact aD _)] at eD;exact q D _ (s2.free hD) (s2.trans sm) eD
def xM:Sp:=λvs H Q _=>∃(c:Int),vs=[.int c]/\∀(N:Addr)(H':Hp),H N=none->aB H H'->H' N=some (.lst ((iQ c).map V.str))->Q (.ref N) H'
def Fu:aI ["_law_cell"] ["_law_cell"] (ay v_):=iS rfl rfl rfl rfl (by decide +kernel)
def Dg (F:ix K "_law_words" "_law_words" v_ f fd)(T:Txt mg):bQ P w K mg base fX 1 f fd ["_law_cell"] xM:=by
 refine F.ok Fu (λvs H Q E h=>?_) (λeJ A outer s H vs Q E hr h=>?_)
 .obtain⟨c,rfl,_⟩:=h;rfl
 obtain⟨c,rfl,q⟩:=h;refine⟨_,ak (aQ (@aP _ _ _ _ _ _ _ bS (@bz _ _ _ _ (@ab _ _ _ _ _ (@bz _ _ _ _ (@ab _ _ _ _ _ (@cC _ _ _ _) (@ab _ _ _ _ _ (@cC _ _ _ _) (@ab _ _ _ _ _ (@cC _ _ _ _) (@ah _) rfl) rfl) rfl)) (@ab _ _ _ _ _ (@bz _ _ _ _ (@ab _ _ _ _ _ (@cC _ _ _ _) (@ab _ _ _ _ _ (@cC _ _ _ _) (@ab _ _ _ _ _ (@cC _ _ _ _) (@ah _) rfl) rfl) rfl)) (@ab _ _ _ _ _ (@bz _ _ _ _ (@ab _ _ _ _ _ (@cC _ _ _ _) (@ab _ _ _ _ _ (@cC _ _ _ _) (@ab _ _ _ _ _ (@cC _ _ _ _) (@ah _) rfl) rfl) rfl)) (@ah _) rfl) rfl) rfl)) (aZ fJ (aZ fQ (pv 0) ar) ar) (λ_ _=>rfl))),?_⟩;dsimp only [Ba];obtain⟨hi,ei⟩:=Ce c;refine⟨KQ,λL1 h1=>⟨KQ,λL2 h2=>⟨KQ,λL3 h3=>⟨KQ,λLL W_=>?_⟩⟩⟩⟩;obtain⟨s1,p1⟩:=QC h1 h2 h3 W_;obtain⟨Li,a1,f1,e1⟩:=p1 (i3 c) hi;rw [Jj] at e1;refine⟨_,rfl,_,_,rfl,rfl,⟨by decide,by decide⟩,_,_,rfl,rfl,(by show (0:Int) < 3;decide),?_⟩;refine⟨LL,_,(i3 c:Int),.ref Li,rfl,congrArg V.int ei,aG.of ae,a1,?_⟩;exact q Li _ f1 s1 e1
def Fl (K:a8):Sp:=λvs H Q _=>∃(S N W:Addr)(ns:List Int) (at_ m:Nat) (eV ws:List Str),vs=[.ref S,.int (at_:Int),.ref N,.int (m:Int),.ref W]/\aG K H S (ns.map V.int)/\ns.length<=1000/\H N=some (.lst (eV.map V.str))/\H W=some (.lst (ws.map V.str))/\0 < eV.length/\eV.length<=5/\ws.length<=10/\m<=10 /\
 ∀(R:Addr)(rs:List Addr)(aa:List au)(H':Hp),H R=none->aB H H'->H' R=some (.lst (rs.map V.ref))->bI K H' rs aa->aa.length=m->(∀ru∈aa,ru.1∈eV/\ru.2.length<=3/\∀x∈ru.2,x∈eV++ws)->Q (.ref R) H'
def rX:aI ["_law_script","_law_at","_law_names_here","_law_many","_law_words_here","_law_rules","_law_some","_law_k","_law_cell"] ["_law_script","_law_at","_law_names_here","_law_many","_law_words_here"] (ay Fz):=iS rfl rfl rfl rfl (by decide +kernel)
def JL (F:ix K "_law_more" "_law_more" Fz f fd)(T:Txt mg)(GC:aE P w K mg base 1 "_law_cell_at" ["_law_script","_law_k"] (vX K))(GD:aE P w K mg base 1 "_law_digits" ["_law_cell","_law_many","_law_some"] rR):bQ P w K mg base fX 2 f fd ["_law_script","_law_at","_law_names_here","_law_many","_law_words_here"] (Fl K):=by
 refine F.ok rX (λvs H Q E h=>?_) (λeJ A outer s H vs Q E hr h=>?_)
 .obtain⟨S,N,W,ns,at_,m,eV,ws,rfl,_⟩:=h;rfl
 obtain⟨S,N,W,ns,at_,m,eV,ws,rfl,hS,hn,hN,hW,Tx,hn1,hw1,hm,q⟩:=h;refine⟨_,aj (aC (i:=5) rX.nd rfl (bA rfl) (bz ah))
  (aj (aC (i:=6) rX.nd rfl (bA rfl) (aZ jO (pv 2) (pv 4)))
  (aj (bJ b8 rfl (gu rfl T.CZ (ab (pv 3) ah)) (ao (i:=7) rX.nd rfl (bA rfl))
   (aj (aC (i:=8) rX.nd rfl (bA rfl) (bc GC hr rfl (ab (pv 0) (ab (aZ fY (pv 1) (pv 7)) ah))))
   (ak (cA (gQ fZ gJ gK bL (pv 5) (ab (bR (ab (aP bS (pv 2) (aZ fJ (pv 8) (aF aK rfl T.len dI (ab (pv 2) ah))) (λ_ _=>rfl))
    (ab (bc GD hr rfl (ab (aZ fQ (pv 8) ar) (ab (aZ fJ (aZ fQ (pv 8) ar) ar) (ab (pv 6) ah)))) ah))) ah))))))
  (ak (aQ (pv 5))))),?_⟩
 nofun
 refine⟨rJ,λL hL=>?_⟩;have s1:=af hL (.lst []);have e1:upd H L (.lst []) L=some (.lst []):=ae;generalize upd H L (.lst [])=H1 at s1 e1;refine⟨_,rfl,_,rfl,N,W,_,_,rfl,rfl,s1 _ _ hN,s1 _ _ hW,fits (by rw [av,av];omega),λM hM=>?_⟩;rw [<-bF];have k2:=af hM (.lst ((eV++ws).map V.str));have s2:=s1.trans k2;have e2:=k2 _ _ e1;have m2:upd H1 M (.lst ((eV++ws).map V.str)) M=some (.lst ((eV++ws).map V.str)):=ae;have nM:M≠L:=λz=>by rw [z,e1] at hM;cases hM
 generalize upd H1 M (.lst ((eV++ws).map V.str))=H2 at k2 s2 e2 m2;refine⟨_,rfl,(m:Int),rfl,by omega,by omega,?_⟩;rw [gI m];refine g9 (n:=m) (λi σ H3=>∃(rs:List Addr)(aa:List au)(y7 y8:Option V),σ=[aM S,some (.int (at_:Int)),aM N,some (.int (m:Int)),aM W,aM L,aM M,y7,y8]/\aB H H3/\H3 L=some (.lst (rs.map V.ref))/\H3 M=some (.lst ((eV++ws).map V.str))/\bI K H3 rs aa/\aa.length=i/\∀ru∈aa,ru.1∈eV/\ru.2.length<=3/\∀x∈ru.2,x∈eV++ws) ⟨[],[],none,none,rfl,s2,e2,m2,.nil,rfl,λ_ h=>by cases h⟩ ?_ ?_
 .intro i σ H3 hi lC
  ac_nf0
  obtain⟨rs,aa,y7,y8,rfl,s3,eL,eM,rl,hl,hf⟩:=lC;have lr:=a_ rl;refine goN ?_
  ac_rfl
  refine⟨_,rfl,_,rfl,_,rfl,_,_,rfl,rfl,?_⟩;refine⟨S,ns,at_+i,(by show [V.ref S,V.int ((at_:Int)+(0+(i:Int)))]=_;congr 3;push_cast;omega),s3.seq hS,hn,λc _=>?_⟩;have ZT:(0:Int) < (eV.length:Int):=by omega
  obtain⟨z,QV,ez⟩:=Yj (zs:=eV) rfl ZT c;obtain⟨d,hd⟩:∃d:Nat,c / 3 % 4=(d:Int):=⟨(c / 3 % 4).toNat,by omega⟩;refine⟨_,rfl,.inl ⟨rfl,_,aG.of eL⟩,_,rfl,_,rfl,_,rfl,N,_,rfl,.inl (aG.of (s3 _ _ hN)),_,_,rfl,rfl,?_⟩;rw [av];refine⟨ZT,N,_,_,_,rfl,rfl,aG.of (s3 _ _ hN),ez,?_⟩;refine⟨_,rfl,_,_,rfl,rfl,⟨by decide,by decide⟩,_,rfl,_,_,rfl,rfl,⟨by decide,by decide⟩,_,_,rfl,rfl,(by show (0:Int) < 4;decide),_,rfl,?_⟩;refine⟨_,d,M,eV++ws,(by show [_,V.int (c / 3 % 4),_]=_;rw [hd]),by omega,eM,by rw [bp];omega,by rw [bp];omega,λp ps H4 s4 e4 l4 uh=>⟨oJ,λR hR=>?_⟩⟩;have k5:=s4.trans (af hR (.tup [.str z,.ref p]));have v1:aR K (upd H4 R (.tup [.str z,.ref p])) R [.str z,.ref p]:=aR.of ae;have v2:aR K (upd H4 R (.tup [.str z,.ref p])) p (ps.map V.str):=(af hR _).tup (aR.of e4);generalize upd H4 R (.tup [.str z,.ref p])=H5 at k5 v1 v2;have Ee:=k5 _ _ eL;refine⟨L,_,_,rfl,rfl,Ee,bE (by rw [av];omega),?_⟩;refine⟨rs++[R],aa++[(z,ps)],_,_,rfl,λb o hb=>?_,by rw [ae,bF];rfl,by rw [ai nM];exact k5 _ _ eM,gW (rl.keep λb xs z=>aW Ee (k5.tup z)) ⟨p,aW Ee v1,aW Ee v2⟩,by rw [bp,hl];rfl,λru iR=>?_⟩
  .rw [ai (λz=>by rw [z,hL] at hb;cases hb)];exact k5 _ _ (s3 b o hb)
  rcases cg.mp iR with h | h
  .exact hf ru h
  rw [bB.mp h];exact⟨QV,by show ps.length<=3;omega,uh⟩
 rintro σ H3 ⟨rs,aa,y7,y8,rfl,s3,eL,eM,rl,hl,hf⟩;exact⟨_,rfl,q L rs aa H3 hL s3 eL rl hl hf⟩
def pS (ns ws:List Str) (a:Nat) (bC:List Str):Prop :=
 (∃n' wx,ns[a+1]?=some n'/\wx≠[]/\(∀x∈wx,x∈ws)/\wx.length<=2/\(bC=wx++[n']\/bC=n'::wx))\/(ns.length<=a+1/\(∀x∈bC,x∈ws)/\bC.length<=2)
def H_ (l:List Str)(n:Str):gp ((l++[n]).map V.str) (some (-1)) none=[V.str n]:=by
 unfold gp;have h1:HT.fu ((l++[n]).map V.str).length 0 (some (-1))=l.length:=by
  rw [av,bp,d8];show (if (-1:Int) < 0 then ((-1:Int)+((l.length+1:Nat):Int)).toNat else min (-1:Int).toNat (l.length+1))=l.length;rw [ax (by decide)];omega
 rw [h1,HT.jk,<-List.map_drop,List.drop_append_of_le_length (aD _),List.drop_length,kQ];rw [av,bp,d8,show l.length+1 - l.length=1 by omega];rfl
def Ib (l:List Str)(n:Str):gp ((l++[n]).map V.str) none (some (-1))=l.map V.str:=by
 unfold gp;have h1:HT.fu ((l++[n]).map V.str).length ((l++[n]).map V.str).length (some (-1))=l.length:=by
  rw [av,bp,d8];show (if (-1:Int) < 0 then ((-1:Int)+((l.length+1:Nat):Int)).toNat else min (-1:Int).toNat (l.length+1))=l.length;rw [ax (by decide)];omega
 rw [h1,HT.jk,qZ,mn,<-oP,qc (aD _),cO]
def Fi (K:a8):Sp:=λvs H Q _=>∃(S N W:Addr)(ns:List Int) (at_:Nat) (eV ws:List Str),vs=[.ref S,.int (at_:Int),.ref N,.ref W]/\aG K H S (ns.map V.int)/\ns.length<=1000/\H N=some (.lst (eV.map V.str))/\H W=some (.lst (ws.map V.str))/\0 < eV.length/\eV.length<=5/\0 < ws.length/\ws.length<=10 /\
 ∀(R:Addr)(rs:List Addr)(aa:List au)(H':Hp),H R=none->aB H H'->H' R=some (.lst (rs.map V.ref))->bI K H' rs aa->aa.length=eV.length->(∀(j:Nat)(ru:au),aa[j]?=some ru->eV[j]?=some ru.1/\pS eV ws j ru.2)->Q (.ref R) H'
def mF:aI ["_law_script","_law_at","_law_names_here","_law_words_here","_law_rules","_law_k","_law_cell","_law_parts"] ["_law_script","_law_at","_law_names_here","_law_words_here"] (ay Fx):=iS rfl rfl rfl rfl (by decide +kernel)
def JJ (F:ix K "_law_skeleton" "_law_skeleton" Fx f fd)(T:Txt mg)(GC:aE P w K mg base 1 "_law_cell_at" ["_law_script","_law_k"] (vX K))(GD:aE P w K mg base 1 "_law_digits" ["_law_cell","_law_many","_law_some"] rR):bQ P w K mg base fX 2 f fd ["_law_script","_law_at","_law_names_here","_law_words_here"] (Fi K):=by
 refine F.ok mF (λvs H Q E h=>?_) (λeJ A outer s H vs Q E hr h=>?_)
 .obtain⟨S,N,W,ns,at_,eV,ws,rfl,_⟩:=h;rfl
 obtain⟨S,N,W,ns,at_,eV,ws,rfl,hS,hn,hN,hW,Tx,hn1,ZM,hw1,q⟩:=h;refine⟨_,aj (aC (i:=4) mF.nd rfl (bA rfl) (bz ah))
  (aj (bJ b8 rfl (gu rfl T.CZ (ab (aF aK rfl T.len dI (ab (pv 2) ah)) ah)) (ao (i:=5) mF.nd rfl (bA rfl))
   (aj (aC (i:=6) mF.nd rfl (bA rfl) (bc GC hr rfl (ab (pv 0) (ab (aZ fY (pv 1) (pv 5)) ah))))
   (aj (aC (i:=7) mF.nd rfl (bA rfl) (bc GD hr rfl (ab (aZ fQ (pv 6) ar) (ab (aZ fJ (pv 6) ar) (ab (pv 3) ah)))))
   (aj (qI (bT (bw qg (aZ fY (pv 5) ar) (aF aK rfl T.len dI (ab (pv 2) ah)) (bV _))
    (aj (aC (i:=7) mF.nd rfl (bA rfl) (aZ wH (bc GD hr rfl (ab (aZ fQ (pv 6) ar) (ab (aZ fY ar (aZ fJ (pv 6) ar)) (ab (pv 3) ah)))) (bR (ab (aP bS (pv 2) (aZ fY (pv 5) ar) (λ_ _=>rfl)) ah))))
    (ak (bT (bw iN (aZ fJ (aZ fQ (pv 6) ar) ar) ar (bV _))
     (ak (aC (i:=7) mF.nd rfl (bA rfl) (aZ wH (fI qG (pv 7) (e_ (lZ i_ ar)) g_) (fI qG (pv 7) g_ (e_ (lZ i_ ar)))))) aS))) aS))
   (ak (cA (gQ fZ gJ gK bL (pv 4) (ab (bR (ab (aP bS (pv 2) (pv 5) (λ_ _=>rfl)) (ab (pv 7) ah))) ah))))))))
  (ak (aQ (pv 4)))),?_⟩
 nofun
 refine⟨rJ,λL hL=>?_⟩;have s1:=af hL (.lst []);have e1:upd H L (.lst []) L=some (.lst []):=ae;generalize upd H L (.lst [])=H1 at s1 e1;refine⟨_,rfl,N,_,rfl,.inl (aG.of (s1 _ _ hN)),((eV.map V.str).length:Int),rfl,by rw [av];omega,by rw [av];omega,?_⟩;rw [av,gI];refine g9 (n:=eV.length) (λi σ H3=>∃(rs:List Addr)(aa:List au)(y5 y6 y7:Option V),σ=[aM S,some (.int (at_:Int)),aM N,aM W,aM L,y5,y6,y7]/\aB H H3/\H3 L=some (.lst (rs.map V.ref))/\bI K H3 rs aa/\aa.length=i/\∀(j:Nat)(ru:au),aa[j]?=some ru->eV[j]?=some ru.1/\pS eV ws j ru.2) ⟨[],[],none,none,none,rfl,s1,e1,.nil,rfl,λj ru e=>by cases e⟩ ?_ ?_
 .intro i σ H3 hi lC
  ac_nf0
  obtain⟨rs,aa,y5,y6,y7,rfl,s3,eL,rl,hl,hf⟩:=lC;have lr:=a_ rl;obtain⟨nm,Nx⟩:∃nm,eV[i]?=some nm:=⟨eV[i],b9 hi⟩;have atn:lQ (eV.map V.str) (0+(i:Int))=some (.str nm):=by
   rw [jY];exact b_ (by rw [bo,Nx];rfl)
  refine goN ?_
  ac_rfl
  refine⟨_,rfl,_,rfl,_,rfl,_,_,rfl,rfl,?_⟩;refine⟨S,ns,at_+i,(by show [V.ref S,V.int ((at_:Int)+(0+(i:Int)))]=_;congr 3;push_cast;omega),s3.seq hS,hn,λc _=>?_⟩;obtain⟨d,hd⟩:∃d:Nat,c % 3=(d:Int):=⟨(c % 3).toNat,by omega⟩;refine⟨_,rfl,_,_,rfl,rfl,⟨by decide,by decide⟩,_,rfl,_,_,rfl,rfl,(by show (0:Int) < 3;decide),_,rfl,?_⟩;refine⟨_,d,W,ws,(by show [_,V.int (c % 3),_]=_;rw [hd]),by omega,s3 _ _ hW,ZM,by omega,λp ps H4 s4 e4 l4 uh=>?_⟩;have xY:=s3.trans s4;have O5:=s4 _ _ eL;have EJ:=rl.same s4;refine⟨λσ H5=>∃(p5:Addr) (bC:List Str),σ=[aM S,some (.int (at_:Int)),aM N,aM W,aM L,some (.int (0+(i:Int))),some (.int c),aM p5]/\aB H4 H5/\aR K H5 p5 (bC.map V.str)/\pS eV ws i bC,?_,?_⟩
  .refine⟨_,rfl,_,_,rfl,rfl,_,rfl,N,_,rfl,.inl (aG.of (xY _ _ hN)),_,_,rfl,rfl,_,rfl,?_⟩;refine cD (λcc=>?_) (λcc=>?_)
   .have lt:=dw cc;rw [av] at lt;have lt':i+1 < eV.length:=by omega
    obtain⟨n',Ka⟩:∃n',eV[i+1]?=some n':=⟨eV[i+1],b9 lt'⟩;have Yh:lQ (eV.map V.str) (0+(i:Int)+1)=some (.str n'):=by
     rw [jY,show (i:Int)+1=((i+1:Nat):Int) by push_cast;rfl];exact b_ (by rw [bo,Ka];rfl)
    obtain⟨d2,hd2⟩:∃d2:Nat,1+c % 2=(d2:Int):=⟨(1+c % 2).toNat,by omega⟩;refine⟨_,rfl,_,_,rfl,rfl,⟨by decide,by decide⟩,_,rfl,_,_,rfl,rfl,(by show (0:Int) < 2;decide),_,_,rfl,rfl,_,rfl,?_⟩;refine⟨_,d2,W,ws,(by show [_,V.int (1+c % 2),_]=_;rw [hd2]),by omega,xY _ _ hW,ZM,by omega,λp6 wx H6 s6 e6 l6 ZI=>?_⟩;have FK:=xY.trans s6;refine⟨_,rfl,_,rfl,_,_,rfl,rfl,N,_,_,_,rfl,rfl,aG.of (FK _ _ hN),Yh,xB,λu hu=>?_⟩;have k7:=af hu (.tup [V.str n']);refine⟨p6,u,_,_,rfl,rfl,k7.tup (aR.of e6),aR.of ae,(by rw [av];show wx.length+1<=sizeLine;exact fits (by omega)),λp8 H8 s8 e8=>?_⟩;have XO:aR K H8 p8 ((wx++[n']).map V.str):=by rw [bF];exact e8
    have OI:=s6.trans (k7.trans s8);have SD:wx≠[]:=λz=>by rw [z] at l6;simp at l6;omega
    refine⟨_,rfl,_,_,rfl,rfl,⟨by decide,by decide⟩,_,_,rfl,rfl,(by show (0:Int) < 2;decide),rfl,_,rfl,?_⟩;refine cD (λc2=>?_) (λc2=>?_)
    .refine⟨_,rfl,_,rfl,_,rfl,p8,_,rfl,XO,λp9 H9 s9 e9=>?_⟩;rw [H_] at e9;refine⟨_,rfl,_,rfl,_,rfl,p8,_,rfl,s9.tup XO,λpA HA sA eA=>?_⟩;rw [Ib] at eA;refine⟨p9,pA,_,_,rfl,rfl,sA.tup e9,eA,(by rw [av];show 1+wx.length<=sizeLine;exact fits (by omega)),λpB HB sB eB=>?_⟩;exact⟨pB,n'::wx,rfl,OI.trans (s9.trans (sA.trans sB)),eB,.inl ⟨n',wx,Ka,SD,ZI,by omega,.inr rfl⟩⟩
    exact⟨p8,wx++[n'],rfl,OI,XO,.inl ⟨n',wx,Ka,SD,ZI,by omega,.inl rfl⟩⟩
   have ge:¬(0+(i:Int)+1 < ((eV.map V.str).length:Int)):=λz=>cc (bM z);rw [av] at ge;exact⟨p,ps,rfl,aB.refl _,aR.of e4,.inr ⟨by omega,uh,by omega⟩⟩
  rintro σ H5 ⟨p5,bC,rfl,s5,e5,sk⟩;have BZ:=xY.trans s5;have Ee:=s5 _ _ O5;refine⟨_,rfl,.inl ⟨rfl,_,aG.of Ee⟩,_,rfl,_,rfl,N,_,_,_,rfl,rfl,aG.of (BZ _ _ hN),atn,_,rfl,oJ,λR hR=>?_⟩;have k6:=af hR (.tup [.str nm,.ref p5]);have v1:aR K (upd H5 R (.tup [.str nm,.ref p5])) R [.str nm,.ref p5]:=aR.of ae;have v2:=k6.tup e5;generalize upd H5 R (.tup [.str nm,.ref p5])=H6 at k6 v1 v2;have HU:=k6 _ _ Ee;refine⟨L,_,_,rfl,rfl,HU,bE (by rw [av];omega),?_⟩;refine⟨rs++[R],aa++[(nm,bC)],_,_,_,rfl,λb o hb=>?_,by rw [ae,bF];rfl,gW ((EJ.same (s5.trans k6)).keep λb xs z=>aW HU z) ⟨p5,aW HU v1,aW HU v2⟩,by rw [bp,hl];rfl,λj ru e=>?_⟩
  .rw [ai (λz=>by rw [z,hL] at hb;cases hb)];exact k6 _ _ (BZ b o hb)
  by_cases cj:j < aa.length
  .rw [qb cj] at e;exact hf j ru e
  have lj:=(bj.mp e).1;rw [bp,d8] at lj;have ej:j=aa.length:=by omega
  subst ej;rw [nu (aD _),Nat.sub_self] at e;cases e;rw [hl];exact⟨Nx,sk⟩
 rintro σ H3 ⟨rs,aa,y5,y6,y7,rfl,s3,eL,rl,hl,hf⟩;exact⟨_,rfl,q L rs aa H3 hL s3 eL rl hl hf⟩
end
end gR
namespace L2
open PySem
def jc {X:Cx}(K:a8)(hK:X.K=K:=by rfl):kx X (compareOp .NotIn) (SW K true):=by
 subst hK;exact jN
def gi (h:Str) (zs:List Str):Np (.str h) (zs.map V.str)=decide (h∈zs):=by
 have:Np (.str h) (zs.map V.str)=true↔h∈zs:=by
  unfold Np;rw [List.any_eq_true];constructor
  .rintro⟨x,h1,h2⟩;obtain⟨z,hz,rfl⟩:=cx.mp h1;have:z=h:=by simpa [uX] using h2
   rw [<-this];exact hz
  intro hm;exact⟨.str h,cx.mpr ⟨h,hm,rfl⟩,by simp [uX]⟩
 by_cases c:h∈zs
 .rw [bM c];exact this.mpr c
 rw [cU c];cases e:Np (.str h) (zs.map V.str) with
 | false=>rfl
 | true=>exact absurd (this.mp e) c
def df (zs:List Str):(zs.map V.str).all gY=true:=by
 rw [gq];intro x hx;obtain⟨z,_,rfl⟩:=cx.mp hx;rfl
section
variable {K:a8}{H:Hp}{p D:Addr}{zs:List Str}{σ:St}{x:Str}{js:List (Nat×Str)}{te:TE}{Qp:Hp->Prop}
def lH (rest:St)(pr:Str->Bool)(hc:dN [x] js σ=none::rest)(hp:aR K H p (zs.map V.str))(hz:zs.length<=1000)(hD:H D=none)
  (QZ:∀z∈zs,∀(H':Hp)(Qy:VK),aB H H'->Qy (.bl (pr z)) H'->te (some (.str z)::rest) H' Qy)
  (q:∀H2,aB H H2->H2 D=some (.lst ((zs.map pr).map V.bl))->Qp H2) :
  ∃W:Nat->Nat->List V->St->Hp->Prop,(∃m,W 0 m [] (dN [x] js σ) (upd H D (.lst []))) /\
 ∀i m ys σ' H,W i m ys σ' H->((oI K p).stop i H/\Qp H)\/((oI K p).go i H/\∃m',m' < m/\∀x H',(oI K p).mD i H x H'->dJ 0 x σ' H' λσ2 H2=>hV σ2 H2 λb H3 =>
  if b=true then te σ2 H3 λy H4=>H4 D=some (.lst ys)/\ys.length < sizeLine/\W (i+1) m' (ys++[y]) σ2 (upd H4 D (.lst (ys++[y]))) else W (i+1) m' ys σ2 H3):=by
 refine gA (xs:=zs.map V.str) (λi ys σ2 H2=>ys=((zs.take i).map pr).map V.bl/\(∃y0,σ2=y0::rest)/\aB H H2/\H2 D=some (.lst ys))
  ⟨rfl,⟨none,hc⟩,af hD _,ae⟩ (λi ys σ2 H2 _ h=>?_) (λi v ys σ2 H2 ex h=>?_) (λys σ2 H2 h=>?_)
 .obtain⟨_,_,sm,_⟩:=h;exact sm.tup hp
 .obtain⟨rfl,⟨y0,rfl⟩,sm,hd⟩:=h;rw [bo] at ex;obtain⟨z,ez,rfl⟩:=cf.mp ex;have li:=(bj.mp ez).1;refine goN (yB (QZ z (bZ ez) _ _ sm ⟨hd,bE (by rw [av,av,dC];omega),?_,⟨_,rfl⟩,λb o hb=>?_,ae⟩))
  .rw [cP,ez,bF,bF];rfl
  rw [ai (λz=>by rw [z,hD] at hb;cases hb)];exact sm b o hb
 obtain⟨rfl,_,sm,hd⟩:=h;rw [av,cO] at hd;exact q H2 sm hd
def ql (rest:St)(pr:Str->Bool)(hc:dN [x] js σ=none::rest)(hp:aG K H p (zs.map V.str))(hz:zs.length<=1000)(hD:H D=none)
  (QZ:∀z∈zs,∀(H':Hp)(Qy:VK),aB H H'->Qy (.bl (pr z)) H'->te (some (.str z)::rest) H' Qy)
  (q:∀H2,aB H H2->H2 D=some (.lst ((zs.map pr).map V.bl))->Qp H2) :
  ∃W:Nat->Nat->List V->St->Hp->Prop,(∃m,W 0 m [] (dN [x] js σ) (upd H D (.lst []))) /\
 ∀i m ys σ' H,W i m ys σ' H->((kj K p).stop i H/\Qp H)\/((kj K p).go i H/\∃m',m' < m/\∀x H',(kj K p).mD i H x H'->dJ 0 x σ' H' λσ2 H2=>hV σ2 H2 λb H3 =>
  if b=true then te σ2 H3 λy H4=>H4 D=some (.lst ys)/\ys.length < sizeLine/\W (i+1) m' (ys++[y]) σ2 (upd H4 D (.lst (ys++[y]))) else W (i+1) m' ys σ2 H3):=by
 refine cH (xs:=zs.map V.str) (λi ys σ2 H2=>ys=((zs.take i).map pr).map V.bl/\(∃y0,σ2=y0::rest)/\aB H H2/\H2 D=some (.lst ys))
  ⟨rfl,⟨none,hc⟩,af hD _,ae⟩ (λi ys σ2 H2 _ h=>?_) (λi v ys σ2 H2 ex h=>?_) (λys σ2 H2 h=>?_)
 .obtain⟨_,_,sm,_⟩:=h;exact sm.seq hp
 .obtain⟨rfl,⟨y0,rfl⟩,sm,hd⟩:=h;rw [bo] at ex;obtain⟨z,ez,rfl⟩:=cf.mp ex;have li:=(bj.mp ez).1;refine goN (yB (QZ z (bZ ez) _ _ sm ⟨hd,bE (by rw [av,av,dC];omega),?_,⟨_,rfl⟩,λb o hb=>?_,ae⟩))
  .rw [cP,ez,bF,bF];rfl
  rw [ai (λz=>by rw [z,hD] at hb;cases hb)];exact sm b o hb
 obtain⟨rfl,_,sm,hd⟩:=h;rw [av,cO] at hd;exact q H2 sm hd
end
theorem all_map (zs:List Str)(pr:Str->Bool):(zs.map pr).all id=zs.all pr:=by
 rw [List.all_map];rfl
end L2
namespace gR
open PySem M11
abbrev hm (aa:List au):List Str:=aa.map (·.1)
structure Small (aa:List au):Prop where
 one:1<=aa.length
 most:aa.length<=8
 A1:∀ru∈aa,ru.2.length<=4
open PySem L2 M11
section
def jU {H:Hp}{R D:Addr}{rs:List Addr}{aa:List au}{σ:St}{Qp:Hp->Prop}(hR:aG K H R (rs.map V.ref))(cS:bI K H rs aa)(br:aa.length<=1000)(hD:H D=none)
  (q:∀H2,aB H H2->H2 D=some (.lst ((hm aa).map V.str))->Qp H2) :
  ∃W:Nat->Nat->List V->St->Hp->Prop,(∃m,W 0 m [] (dN ["_law_head","_law_parts"] [] σ) (upd H D (.lst []))) /\
 ∀i m ys σ' H,W i m ys σ' H->((kj K R).stop i H/\Qp H)\/((kj K R).go i H/\∃m',m' < m/\∀x H',(kj K R).mD i H x H'->AW K 2 (jt (dJ 0) (jt (dJ 1) DR)) x σ' H' λσ2 H2=>hV σ2 H2 λb H3 =>
  if b=true then gC 0 σ2 H3 λy H4=>H4 D=some (.lst ys)/\ys.length < sizeLine/\W (i+1) m' (ys++[y]) σ2 (upd H4 D (.lst (ys++[y]))) else W (i+1) m' ys σ2 H3):=by
 have ll:=a_ cS;refine cH (xs:=rs.map V.ref) (λi ys σ2 H2=>ys=((hm aa).take i).map V.str/\(∃y0 y1,σ2=[y0,y1])/\aB H H2/\H2 D=some (.lst ys))
  ⟨rfl,⟨none,none,rfl⟩,af hD _,ae⟩ (λi ys σ2 H2 _ h=>?_) (λi x ys σ2 H2 ex h=>?_) (λys σ2 H2 h=>?_)
 .obtain⟨_,_,sm,_⟩:=h;exact sm.seq hR
 .obtain⟨rfl,⟨y0,y1,rfl⟩,sm,uT⟩:=h;rw [bo] at ex;obtain⟨r,er,rfl⟩:=cf.mp ex;obtain⟨ru,e1,p,v1,v2⟩:=cS.get er;have li:=(bj.mp e1).1;refine⟨r,_,rfl,sm.tup v1,rfl,_,_,rfl,_,_,rfl,rfl,?_⟩;refine yB ?_;refine⟨_,rfl,uT,bE (by rw [av,dC];omega),?_,⟨_,_,rfl⟩,λb o hb=>?_,ae⟩
  .have:(hm aa)[i]?=some ru.1:=by unfold hm;rw [bo,e1];rfl
   rw [cP,this,bF];rfl
  rw [ai (λz=>by rw [z,hD] at hb;cases hb)];exact sm b o hb
 obtain⟨rfl,_,sm,uT⟩:=h;rw [av,ll,qU (by unfold hm;rw [av];exact aD _)] at uT;exact q H2 sm uT
def BP (K:a8):Sp:=λvs H Q _=>∃(R:Addr)(rs:List Addr)(aa:List au)(b:Bool),vs=[.ref R,.bl b]/\aG K H R (rs.map V.ref)/\bI K H rs aa/\Small aa /\
 ∀(D:Addr)(H':Hp),H D=none->aB H H'->H' D=some (.lst ((cE b aa).map V.str))->(cE b aa).length<=64->Q (.ref D) H'
abbrev NE:List Str:=["_law_rules","_law_words_here","_law_head","_law_parts","_law_heads","_law_ended_here","_law_again","_law_good_here"]
def jI:aI NE ["_law_rules","_law_words_here"] (ay z6):=iS rfl rfl rfl rfl (by decide +kernel)
def Gx (F:ix K "_law_ended" "_law_ended" z6 f fd)(T:Txt mg):bQ P w K mg base fX 1 f fd ["_law_rules","_law_words_here"] (BP K):=by
 refine F.ok jI (λvs H Q E h=>?_) (λeJ A outer s H vs Q E hr h=>?_)
 .obtain⟨R,rs,aa,b,rfl,_⟩:=h;rfl
 obtain⟨R,rs,aa,b,rfl,hR,cS,DF,q⟩:=h;have Wr:=DF.one;have Wq:=DF.most;refine⟨_,aj (aC (i:=4) jI.nd rfl (Or.inr rfl) (ba ["_law_head","_law_parts"] [] rfl (aX (pv 0)) (a9 rfl rfl) (by decide +kernel) rfl (by decide +kernel)
   (λ_ _ _ _ _=>fc (n:=2) K rfl (aA (ao (i:=0) (show (["_law_head","_law_parts"]:List Str).Nodup by decide +kernel) rfl (bA rfl)) (aA (ao (i:=1) (show (["_law_head","_law_parts"]:List Str).Nodup by decide +kernel) rfl (bA rfl)) bU))) (λ_ _ _ _ _=>bO)
   (λ_ _ _ _ _=>pv 0)))
  (aj (aC (i:=5) jI.nd rfl (Or.inr rfl) (bz ah))
  (aj (bJ b8 rfl (aX (pv 0)) (ao (i:=6) jI.nd rfl (bA rfl))
   (ak (bJ b8 rfl (aX (pv 0)) (fc (n:=2) K rfl (aA (ao (i:=2) jI.nd rfl (bA rfl)) (aA (ao (i:=3) jI.nd rfl (bA rfl)) bU)))
    (aj (aC (i:=7) jI.nd rfl (bA rfl) (aF (gB rfl) rfl T.all boot_all (ab
      (ba ["_law_part"] [(5,"_law_ended_here"),(4,"_law_heads"),(1,"_law_words_here")] rfl (fA (pv 3)) (a9 rfl rfl) (by decide +kernel) rfl (by decide +kernel)
       (λ_ _ _ _ _=>ao (i:=0) (show (["_law_part","_law_ended_here","_law_heads","_law_words_here"]:List Str).Nodup by decide +kernel) rfl (bA rfl)) (λ_ _ _ _ _=>bO)
       (λ_ _ _ _ _=>K6 (ff (gk K) (pv 0) (pv 1) rfl) (jL (jM (pv 3) (jL (ff (jc K) (pv 0) (pv 2) rfl)))))) ah)))
    (ak (bT (PW.pt (ja (dF (pv 7)) (iz (bw jN (pv 2) (pv 5) rfl))))
     (ak (cA (gQ fZ gJ gK bL (pv 5) (ab (pv 2) ah)))) aS))))))
  (ak (aQ (pv 5))))),?_⟩
 nofun
 refine⟨_,rfl,R,rfl,⟨_,hR⟩,λD hD=>jU hR cS (by omega) hD λH1 s1 eD=>?_⟩;refine goN ?_
 ac_rfl
 refine⟨rJ,λL hL=>?_⟩;have s2:=s1.trans (af hL (.lst []));have HV:=af hL (.lst []) _ _ eD;have nL:L≠D:=λz=>by rw [z,eD] at hL;cases hL
 have fL:H L=none:=s1.free hL;have e2:upd H1 L (.lst []) L=some (.lst []):=ae;generalize upd H1 L (.lst [])=H2 at s2 HV e2;refine goN ?_
 ac_rfl
 have ll:=a_ cS;refine⟨_,rfl,R,rfl,⟨_,s2.seq hR⟩,cQ (xs:=rs.map V.ref) (λi σ H3=>∃(es:List Str)(y2 y3 y6 y7:Option V),σ=[aM R,some (.bl b),y2,y3,aM D,aM L,y6,y7]/\aB H H3/\H3 D=some (.lst ((hm aa).map V.str))/\H3 L=some (.lst (es.map V.str))/\es=passes (λe=>fU b (hm aa) e aa) i []/\es.length<=8 * i) ⟨[],_,_,_,_,rfl,s2,HV,e2,rfl,by simp⟩ ?_ ?_ ?_⟩
 .rintro i σ H3 _ ⟨es,y2,y3,y6,y7,rfl,s3,_⟩;exact s3.seq hR
 .intro i x σ H3 ex lC
  ac_nf0
  obtain⟨es,y2,y3,y6,y7,rfl,s3,IX,XG,he,DK⟩:=lC;have li:=(bj.mp ex).1;rw [av] at li;refine goN ?_
  ac_nf
  refine⟨_,rfl,R,rfl,⟨_,s3.seq hR⟩,cQ (xs:=rs.map V.ref) (λj σ H4=>∃(ij:List Str)(y2 y3 y7:Option V),σ=[aM R,some (.bl b),y2,y3,aM D,aM L,some x,y7]/\aB H H4/\H4 D=some (.lst ((hm aa).map V.str))/\H4 L=some (.lst (ij.map V.str))/\ij=fU b (hm aa) es (aa.take j)/\ij.length<=8 * i+j) ⟨es,_,_,_,rfl,s3,IX,XG,rfl,by omega⟩ ?_ ?_ ?_⟩
  .rintro j σ H4 _ ⟨ij,y2,y3,y7,rfl,s4,_⟩;exact s4.seq hR
  .intro j x2 σ H4 pN lC
   ac_nf0
   obtain⟨ij,y2,y3,y7,rfl,s4,Ef,O5,AQ,Rp⟩:=lC;have lj:=(bj.mp pN).1;rw [av] at lj;rw [bo] at pN;obtain⟨r,er,rfl⟩:=cf.mp pN;obtain⟨ru,e1,p,v1,v2⟩:=cS.get er;have iR:=DF.A1 ru (bZ e1);refine⟨r,_,rfl,s4.tup v1,rfl,_,_,rfl,_,_,rfl,rfl,?_⟩;refine⟨_,rfl,p,rfl,⟨_,s4.tup v2⟩,λD2 i4=>lH (zs:=ru.2) [aM L,aM D,some (.bl b)] (λz=>decide (z∈ij) || (b && !decide (z∈hm aa))) rfl (s4.tup v2) (by omega) i4 (λz _ H5 Qy s5 hq=>?_) λH5 s5 O6=>?_⟩
   .refine⟨_,rfl,_,rfl,L,_,rfl,.inl (aG.of (s5 _ _ O5)),rfl,df _,?_⟩;refine⟨_,rfl,?_⟩;rw [gi];show if decide (z∈ij)=true then _ else _;refine cD (λc=>?_) (λc=>?_)
    .rw [c] at hq;exact hq
    have c':decide (z∈ij)=false:=by simpa using c
    rw [c',Bool.false_or] at hq;refine⟨_,rfl,b,rfl,?_⟩;refine cD (λcb=>?_) (λcb=>?_)
    .rw [cb,j4] at hq;refine⟨_,rfl,_,rfl,D,_,rfl,.inl (aG.of (s5 _ _ Ef)),rfl,df _,?_⟩;rw [gi];exact hq
    have cb':b=false:=by simpa using cb
    rw [cb',qY] at hq;exact hq
   refine⟨D2,_,rfl,aG.of O6,?_⟩;rw [all_map];refine goN ?_
   ac_rfl
   have tY:=s4.trans s5;have Ee:=s5 _ _ O5;have pe:fU b (hm aa) es (aa.take (j+1))=dD b (hm aa) ij ru:=by
    rw [AQ,cP,e1];unfold fU;rw [vw];rfl
   refine⟨_,rfl,_,rfl,?_⟩;refine cD (λc=>?_) (λc=>?_)
   .refine⟨_,rfl,_,rfl,L,_,rfl,.inl (aG.of Ee),rfl,df _,_,rfl,?_⟩;rw [gi];show if (!decide (ru.1∈ij))=true then _ else _;refine cD (λc2=>?_) (λc2=>?_)
    .refine⟨_,rfl,.inl ⟨rfl,_,aG.of Ee⟩,_,rfl,L,_,_,rfl,rfl,Ee,bE (by rw [av];omega),?_⟩;refine⟨ij++[ru.1],_,_,_,rfl,λb o hb=>?_,by rw [ai (fk nL)];exact s5 _ _ Ef,by rw [ae,bF];rfl,?_,by rw [bp];simp;omega⟩
     .rw [ai (λz=>by rw [z,fL] at hb;cases hb)];exact tY b o hb
     rw [pe];unfold dD;rw [c,j4,ax c2]
    refine⟨ij,_,_,_,rfl,tY,s5 _ _ Ef,Ee,?_,by omega⟩;rw [pe];unfold dD;rw [c,j4,aw c2]
   refine⟨ij,_,_,_,rfl,tY,s5 _ _ Ef,Ee,?_,by omega⟩;rw [pe];unfold dD;rw [aw (λz=>c (fj.mp z).1)]
  rintro σ H4 ⟨ij,y2,y3,y7,rfl,s4,Ef,O5,AQ,Rp⟩;rw [av,ll] at Rp;rw [av,ll,cO] at AQ;exact⟨ij,_,_,_,_,rfl,s4,Ef,O5,by rw [AQ,he];rfl,by omega⟩
 rintro σ H3 ⟨es,y2,y3,y6,y7,rfl,s3,IX,XG,he,DK⟩;rw [av,ll] at he DK;refine⟨_,rfl,?_⟩;have e:cE b aa=es:=he.symm;exact q L H3 fL s3 (by rw [e];exact XG) (by rw [e];omega)
end
def u3 (zs:List Str) (j:Nat):gp (zs.map V.str) none (some (0+(j:Int)))=(zs.take j).map V.str:=by
 rw [jY];unfold gp;rw [HT.jk,HT.qH,qZ,mn,av,oP]
 conv=>rhs;rw [List.take_eq_take_min,av]
def Ep (zs:List Str) (j:Nat):gp (zs.map V.str) (some (0+(j:Int)+1)) none=(zs.drop (j+1)).map V.str:=by
 rw [jY,show (j:Int)+1=((j+1:Nat):Int) by push_cast;rfl];unfold gp;rw [HT.jk,HT.qH,av,List.map_drop];by_cases h:j+1<=zs.length
 .rw [Nat.min_eq_left h,qU (by rw [mv,av];exact aD _)]
 rw [Nat.min_eq_right (by omega),Nat.sub_self,oS,List.drop_eq_nil_of_le (by rw [av];omega)]
def Bl (aa:List au) (ms:List Str):Prop:=∀(i:Nat)(h:Str),ms[i]?=some h->(∃lY,aa[0]?=some lY/\h=lY.1)\/∃ru∈aa,ru.1∈ms.take i/\h∈ru.2
def Iw (aa:List au)(ru:au) (j:Nat)(z:Str):Prop:=ru.2[j]?=some z/\z∈hm aa/\∀(k:Nat)(y:Str),k≠j->ru.2[k]?=some y->y∈cE false aa
def PlO (aa:List au) (cs:List Str):Prop:=∀(i:Nat)(h:Str),cs[i]?=some h->∀ru∈aa,ru.1=h->∀(j:Nat)(z:Str),Iw aa ru j z->z∈cs.take i
structure CG (aa:List au) (ms cs:List Str):Prop where
 en:∀z∈hm aa,z∈cE true aa
 mo:Bl aa ms
 ma:∀z∈hm aa,z∈ms
 cn:cs.Nodup
 ch:∀x∈cs,x∈hm aa
 co:PlO aa cs
 ca:∀z∈hm aa,z∈cs
def Bl.app {aa:List au}{ms zs:List Str}{ru:au}(h:Bl aa ms)(hr:ru∈aa)(h1:ru.1∈ms)(h2:∀z∈zs,z∈ru.2):Bl aa (ms++zs):=by
 intro i x hx;by_cases l:i < ms.length
 .rw [qb l] at hx;rcases h i x hx with a | ⟨r,a,b,c⟩
  .exact .inl a
  exact .inr ⟨r,a,by rw [qc (by omega)];exact b,c⟩
 rw [nu (by omega)] at hx;refine .inr ⟨ru,hr,?_,h2 x (bZ hx)⟩;rw [List.take_append,qU (by omega)];exact iG _ h1
def YB (aa:List au)(ri:List au)(gE:List (Str×Str)):Prop:=∀ru∈ri,∀(j:Nat)(z:Str),Iw aa ru j z->(ru.1,z)∈gE
structure Pn (aa:List au)(gE:List (Str×Str)) (cs:List Str):Prop where
 cn:cs.Nodup
 ch:∀x∈cs,x∈hm aa
 co:∀(i:Nat)(h:Str),cs[i]?=some h->∀z,(h,z)∈gE->z∈cs.take i
def Pn.add {aa:List au}{gE:List (Str×Str)}{cs:List Str}{nm:Str}(h:Pn aa gE cs)(n:nm∉cs)(hh:nm∈hm aa)(a:∀z,(nm,z)∈gE->z∈cs):Pn aa gE (cs++[nm]):=by
 refine⟨j8.mpr ⟨h.cn,by simp,λx hx y hy z=>n (by rw [<-bB.mp hy,<-z];exact hx)⟩,λx hx=>?_,λi x hx z hz=>?_⟩
 .rcases cg.mp hx with q | q
  .exact h.ch x q
  rw [bB.mp q];exact hh
 by_cases l:i < cs.length
 .rw [qb l] at hx;rw [qc (by omega)];exact h.co i x hx z hz
 have li:=(bj.mp hx).1;rw [bp,d8] at li;have:i=cs.length:=by omega
 subst this;rw [nu (aD _),Nat.sub_self] at hx;cases hx;rw [qc (aD _),cO];exact a z hz
section
def Fo (K:a8):Sp:=λvs H Q _=>∃(R:Addr)(rs:List Addr)(aa:List au),vs=[.ref R]/\aG K H R (rs.map V.ref)/\bI K H rs aa/\Small aa /\
 ∀(b:Bool)(H':Hp),aB H H'->(b=true->∃ms cs,CG aa ms cs)->Q (.bl b) H'
abbrev NG:List Str:=["_law_rules","_law_head","_law_parts","_law_heads","_law_ended_here","_law_met","_law_again","_law_empty","_law_alone","_law_k","_law_others","_law_placed","_law_name","_law_later"]
def eY:aI NG ["_law_rules"] (ay FE):=iS rfl rfl rfl rfl (by decide +kernel)
def JO (F:ix K "_law_good" "_law_good" FE f fd)(T:Txt mg)(GE:aE P w K mg base 1 "_law_ended" ["_law_rules","_law_words_here"] (BP K)):bQ P w K mg base fX 2 f fd ["_law_rules"] (Fo K):=by
 refine F.ok eY (λvs H Q E h=>?_) (λeJ A outer s H vs Q E hr h=>?_)
 .obtain⟨R,rs,aa,rfl,_⟩:=h;rfl
 obtain⟨R,rs,aa,rfl,hR,cS,DF,q⟩:=h;have Wr:=DF.one;have Wq:=DF.most;refine⟨_,aj (aC (i:=3) eY.nd rfl (Or.inr rfl) (ba ["_law_head","_law_parts"] [] rfl (aX (pv 0)) (a9 rfl rfl) (by decide +kernel) rfl (by decide +kernel)
   (λ_ _ _ _ _=>fc (n:=2) K rfl (aA (ao (i:=0) (show (["_law_head","_law_parts"]:List Str).Nodup by decide +kernel) rfl (bA rfl)) (aA (ao (i:=1) (show (["_law_head","_law_parts"]:List Str).Nodup by decide +kernel) rfl (bA rfl)) bU))) (λ_ _ _ _ _=>bO)
   (λ_ _ _ _ _=>pv 0)))
  (aj (aC (i:=4) eY.nd rfl (Or.inr rfl) (bc GE hr rfl (ab (pv 0) (ab dU ah))))
  (aj (aC (i:=5) eY.nd rfl (Or.inr rfl) (fI jG (pv 3) g_ (e_ ar)))
  (aj (bJ b8 rfl (aX (pv 0)) (ao (i:=6) eY.nd rfl (bA rfl))
   (ak (bJ b8 rfl (aX (pv 0)) (fc (n:=2) K rfl (aA (ao (i:=1) eY.nd rfl (bA rfl)) (aA (ao (i:=2) eY.nd rfl (bA rfl)) bU)))
    (ak (bT (bw pF (pv 1) (pv 5) rfl)
     (ak (aC (i:=5) eY.nd rfl (Or.inr rfl) (aZ jO (pv 5)
      (ba ["_law_part"] [(3,"_law_heads"),(5,"_law_met")] rfl (fA (pv 2)) (a9 rfl rfl) (by decide +kernel) rfl (by decide +kernel)
       (λ_ _ _ _ _=>ao (i:=0) (show (["_law_part","_law_heads","_law_met"]:List Str).Nodup by decide +kernel) rfl (bA rfl))
       (λ_ _ _ _ _=>hJ (PW.pt (ja (bw (gk K) (pv 0) (pv 1) rfl) (iz (bw (jc K) (pv 0) (pv 2) rfl)))))
       (λ_ _ _ _ _=>pv 0))))) aS)))))
  (aj (aC (i:=7) eY.nd rfl (Or.inr rfl) (bc GE hr rfl (ab (pv 0) (ab dU ah))))
  (aj (aC (i:=8) eY.nd rfl (bA rfl) (bz ah))
  (aj (bJ b8 rfl (aX (pv 0)) (fc (n:=2) K rfl (aA (ao (i:=1) eY.nd rfl (bA rfl)) (aA (ao (i:=2) eY.nd rfl (bA rfl)) bU)))
   (ak (bJ b8 rfl (gu rfl T.CZ (ab (aF aK rfl T.len dI (ab (pv 2) ah)) ah)) (ao (i:=9) eY.nd rfl (bA rfl))
    (aj (aC (i:=10) eY.nd rfl (bA rfl) (aZ wH (fI qG (pv 2) g_ (e_ (pv 9))) (fI qG (pv 2) (e_ (aZ fY (pv 9) ar)) g_)))
    (ak (bT (PW.pt (ja (bw pF (aP bq (pv 2) (pv 9) (λ_ _=>rfl)) (pv 3) rfl) (iz (dF (aF (gB rfl) rfl T.all boot_all (ab
      (ba ["_law_part"] [(7,"_law_empty")] rfl (fA (pv 10)) (a9 rfl rfl) (by decide +kernel) rfl (by decide +kernel)
       (λ_ _ _ _ _=>ao (i:=0) (show (["_law_part","_law_empty"]:List Str).Nodup by decide +kernel) rfl (bA rfl)) (λ_ _ _ _ _=>bO)
       (λ_ _ _ _ _=>ff (gk K) (pv 0) (pv 1) rfl)) ah))))))
     (ak (cA (gQ fZ gJ gK bL (pv 8) (ab (bR (ab (pv 1) (ab (aP bq (pv 2) (pv 9) (λ_ _=>rfl)) ah))) ah)))) aS))))))
  (aj (aC (i:=11) eY.nd rfl (Or.inr rfl) (bz ah))
  (aj (bJ b8 rfl (aX (pv 0)) (ao (i:=6) eY.nd rfl (bA rfl))
   (ak (bJ b8 rfl (aX (pv 3)) (ao (i:=12) eY.nd rfl (Or.inr rfl))
    (aj (jK (iy:=13) ["_law_pair"] [(12,"_law_name")] eY.nd rfl rfl rfl (aX (pv 8)) (a9 rfl rfl) (by decide +kernel) rfl (by decide +kernel)
      (λ_ _ _ _ _=>ao (i:=0) (show (["_law_pair","_law_name"]:List Str).Nodup by decide +kernel) rfl (bA rfl))
      (λ_ _ _ _ _=>hJ (bw iN (aP (jS K) (pv 0) ar (λ_ _=>rfl)) (pv 1) (bV _))) (λ_ _ _ _ _=>aP (jS K) (pv 0) ar (λ_ _=>rfl)))
    (ak (bT (PW.pt (ja (dF (aF (gB rfl) rfl T.all boot_all (ab
      (ba ["_law_other"] [(11,"_law_placed")] rfl (aX (pv 13)) (a9 rfl rfl) (by decide +kernel) rfl (by decide +kernel)
       (λ_ _ _ _ _=>ao (i:=0) (show (["_law_other","_law_placed"]:List Str).Nodup by decide +kernel) rfl (bA rfl)) (λ_ _ _ _ _=>bO)
       (λ_ _ _ _ _=>ff (gk K) (pv 0) (pv 1) rfl)) ah))) (iz (bw jN (pv 12) (pv 11) rfl))))
     (ak (cA (gQ fZ gJ gK bL (pv 11) (ab (pv 12) ah)))) aS))))))
  (ak (aQ (aF (gB rfl) rfl T.all boot_all (ab
   (ba ["_law_name"] [(4,"_law_ended_here"),(5,"_law_met"),(11,"_law_placed")] rfl (aX (pv 3)) (a9 rfl rfl) (by decide +kernel) rfl (by decide +kernel)
    (λ_ _ _ _ _=>ao (i:=0) (show (["_law_name","_law_ended_here","_law_met","_law_placed"]:List Str).Nodup by decide +kernel) rfl (bA rfl)) (λ_ _ _ _ _=>bO)
    (λ_ _ _ _ _=>jM (ff (gk K) (pv 0) (pv 1) rfl) (jM (ff (gk K) (pv 0) (pv 2) rfl) (jL (ff (gk K) (pv 0) (pv 3) rfl))))) ah)))))))))))),?_⟩
 nofun
 have ll:=a_ cS;refine⟨_,rfl,R,rfl,⟨_,hR⟩,λD hD=>jU hR cS (by omega) hD λH1 s1 eD=>?_⟩;refine goN ?_
 ac_rfl
 refine⟨_,rfl,R,rs,aa,true,rfl,s1.seq hR,cS.same s1,DF,λEn H2 fE s2 eE lE=>?_⟩;refine goN ?_
 ac_rfl
 have Xv:gp ((hm aa).map V.str) none (some 1)=((hm aa).take 1).map V.str:=u3 (hm aa) 1;have Lr:(hm aa).length=aa.length:=by unfold hm;rw [av]
 refine⟨_,rfl,_,rfl,D,_,rfl,aG.of (s2 _ _ eD),λM0 hM0=>?_⟩;rw [Xv];have lm0:((hm aa).take 1).length<=1:=by rw [dC];omega
 have Zn:Bl aa ((hm aa).take 1):=λi h e=>by
  have li:=(bj.mp e).1;have:i=0:=by omega
  subst this;rw [rH (by omega)] at e;rw [bo] at e;obtain⟨r0,e0,rfl⟩:=cf.mp e;exact .inl ⟨r0,e0,rfl⟩
 generalize (hm aa).take 1=m0 at lm0 Zn;have k3:=af hM0 (.lst (m0.map V.str));have s3:=(s1.trans s2).trans k3;have IX:=k3 _ _ (s2 _ _ eD);have XH:=k3 _ _ eE;have eM3:upd H2 M0 (.lst (m0.map V.str)) M0=some (.lst (m0.map V.str)):=ae;generalize upd H2 M0 (.lst (m0.map V.str))=H3 at k3 s3 IX XH eM3;refine goN ?_
 ac_rfl
 refine⟨_,rfl,R,rfl,⟨_,s3.seq hR⟩,cQ (xs:=rs.map V.ref) (λi σ H4=>∃(M:Addr) (ms:List Str)(y1 y2 y6:Option V),σ=[aM R,y1,y2,aM D,aM En,aM M,y6,none,none,none,none,none,none,none]/\aB H3 H4/\H4 M=some (.lst (ms.map V.str))/\ms.length<=8+40 * i/\Bl aa ms) ⟨M0,m0,_,_,_,rfl,λ_ _ h=>h,eM3,by omega,Zn⟩ ?_ ?_ ?_⟩
 .rintro i σ H4 _ ⟨M,ms,y1,y2,y6,rfl,s4,_⟩;exact s4.seq (s3.seq hR)
 .intro i x σ H4 ex lC
  ac_nf0
  obtain⟨M,ms,y1,y2,y6,rfl,s4,eM,lM,mO⟩:=lC;have li:=(bj.mp ex).1;rw [av] at li;refine goN ?_
  ac_nf
  refine⟨_,rfl,R,rfl,⟨_,s4.seq (s3.seq hR)⟩,cQ (xs:=rs.map V.ref) (λj σ H5=>∃(M:Addr) (ms:List Str)(y1 y2:Option V),σ=[aM R,y1,y2,aM D,aM En,aM M,some x,none,none,none,none,none,none,none]/\aB H3 H5/\H5 M=some (.lst (ms.map V.str))/\ms.length<=8+40 * i+4 * j/\Bl aa ms) ⟨M,ms,_,_,rfl,s4,eM,by omega,mO⟩ ?_ ?_ ?_⟩
  .rintro j σ H5 _ ⟨M,ms,y1,y2,rfl,s5,_⟩;exact s5.seq (s3.seq hR)
  .intro j x2 σ H5 pN lC
   ac_nf0
   obtain⟨M,ms,y1,y2,rfl,s5,eM,lM,mO⟩:=lC;have lj:=(bj.mp pN).1;rw [av] at lj;rw [bo] at pN;obtain⟨r,er,rfl⟩:=cf.mp pN;obtain⟨ru,e1,p,v1,v2⟩:=cS.get er;have iR:=DF.A1 ru (bZ e1);have BZ:=s3.trans s5;refine⟨r,_,rfl,BZ.tup v1,rfl,_,_,rfl,_,_,rfl,rfl,?_⟩;refine⟨_,rfl,_,rfl,M,_,rfl,.inl (aG.of eM),rfl,df _,_,rfl,?_⟩;refine cD (λc=>?_) (λc=>?_)
   .refine⟨_,rfl,_,rfl,p,rfl,⟨_,BZ.tup v2⟩,λD2 i4=>gA (xs:=ru.2.map V.str) (λk ys σ2 H6=>∃zs:List Str,ys=zs.map V.str/\zs.length<=k/\(∃y0,σ2=[y0,aM D,aM M])/\aB H5 H6/\H6 D2=some (.lst ys)/\∀z∈zs,z∈ru.2)
     ⟨[],rfl,aD _,⟨none,rfl⟩,af i4 _,ae,λ_ h=>(by cases h)⟩ (λk ys σ2 H6 _ h=>?_) (λk v ys σ2 H6 ex h=>?_) (λys σ2 H6 h=>?_)⟩
    .obtain⟨_,_,_,_,s6,_⟩:=h;exact s6.tup (BZ.tup v2)
    .obtain⟨zs,rfl,lz,⟨y0,rfl⟩,s6,HV,zm⟩:=h;have lk:=(bj.mp ex).1;rw [av] at lk;rw [bo] at ex;obtain⟨z,ez,rfl⟩:=cf.mp ex;refine goN ?_;refine⟨_,rfl,_,rfl,D,_,rfl,.inl (aG.of (s6 _ _ (s5 _ _ IX))),rfl,df _,_,rfl,?_⟩;refine cD (λc1=>?_) (λc1=>?_)
     .refine⟨_,rfl,_,rfl,M,_,rfl,.inl (aG.of (s6 _ _ eM)),rfl,df _,_,rfl,?_⟩;refine cD (λc2=>?_) (λc2=>?_)
      .refine⟨_,rfl,HV,bE (by rw [av];omega),zs++[z],by rw [bF];rfl,by rw [bp];simp;omega,⟨_,rfl⟩,λb o hb=>?_,ae,λy hy=>(cg.mp hy).elim (zm y) λq=>(bB.mp q) ▸ bZ ez⟩;rw [ai (λz=>by rw [z,i4] at hb;cases hb)];exact s6 b o hb
      exact⟨zs,rfl,by omega,⟨_,rfl⟩,s6,HV,zm⟩
     refine dq ?_;exact⟨zs,rfl,by omega,⟨_,rfl⟩,s6,HV,zm⟩
    obtain⟨zs,rfl,lz,_,s6,HV,zm⟩:=h;have cm:ru.1∈ms:=dw ((gi _ _).symm.trans c);rw [av] at lz;refine⟨M,D2,_,_,rfl,rfl,s6 _ _ eM,HV,fits (by rw [av,av];omega),λM2 hM2=>?_⟩;rw [<-bF];refine⟨M2,ms++zs,_,_,rfl,(s5.trans s6).trans (af hM2 _),ae,by rw [bp];omega,mO.app (bZ e1) cm zm⟩
   exact⟨M,ms,_,_,rfl,s5,eM,by omega,mO⟩
  rintro σ H5 ⟨M,ms,y1,y2,rfl,s5,eM,lM,mO⟩;rw [av,ll] at lM;exact⟨M,ms,_,_,_,rfl,s5,eM,by omega,mO⟩
 rintro σ H4 ⟨M,ms,y1,y2,y6,rfl,s4,eM,lM,mO⟩;have xY:=s3.trans s4;refine⟨_,rfl,R,rs,aa,false,rfl,xY.seq hR,cS.same xY,DF,λEm H5 fEm s5 eEm lEm=>?_⟩;refine goN ?_
 ac_rfl
 refine⟨rJ,λAl Xh=>?_⟩;have k6:=af Xh (.lst []);have s6:=(xY.trans s5).trans k6;have Ue:=k6 _ _ (s5 _ _ (s4 _ _ IX));have eE6:=k6 _ _ (s5 _ _ (s4 _ _ XH));have eM6:=k6 _ _ (s5 _ _ eM);have R9:=k6 _ _ eEm;have eA6:upd H5 Al (.lst []) Al=some (.lst []):=ae;have nA:∀b o,H5 b=some o->b≠Al:=λb o h z=>by rw [z,Xh] at h;cases h
 have nAD:=nA _ _ (s5 _ _ (s4 _ _ IX));have nAE:=nA _ _ (s5 _ _ (s4 _ _ XH));have nAM:=nA _ _ (s5 _ _ eM);have nAm:=nA _ _ eEm;have fAl:H Al=none:=(xY.trans s5).free Xh;generalize upd H5 Al (.lst [])=H6 at k6 s6 Ue eE6 eM6 R9 eA6;refine goN ?_
 ac_rfl
 let Kp:Hp->Prop:=λH7=>aB H H7/\H7 D=some (.lst ((hm aa).map V.str))/\H7 En=some (.lst ((cE true aa).map V.str))/\H7 M=some (.lst (ms.map V.str))/\H7 Em=some (.lst ((cE false aa).map V.str))
 have iZ:∀{H7 H8:Hp},Kp H7->aB H7 H8->Kp H8:=λh s=>⟨h.1.trans s,s _ _ h.2.1,s _ _ h.2.2.1,s _ _ h.2.2.2.1,s _ _ h.2.2.2.2⟩;have QO:∀{H7:Hp}{xs:List V},Kp H7->Kp (upd H7 Al (.lst xs)):=λh=>⟨λb o hb=>by rw [ai (λz=>by rw [z,fAl] at hb;cases hb)];exact h.1 b o hb,by rw [ai nAD];exact h.2.1,by rw [ai nAE];exact h.2.2.1,by rw [ai nAM];exact h.2.2.2.1,by rw [ai nAm];exact h.2.2.2.2⟩
 let LY:Hp->List Addr->List (Str×Str)->Prop:=λH7 as gE=>Paired (λa (pr:Str×Str)=>aR K H7 a [.str pr.1,.str pr.2]) as gE
 refine⟨_,rfl,R,rfl,⟨_,s6.seq hR⟩,cQ (xs:=rs.map V.ref) (λi σ H7=>∃(as:List Addr)(gE:List (Str×Str))(y1 y2 y6 y9 zk:Option V),σ=[aM R,y1,y2,aM D,aM En,aM M,y6,aM Em,aM Al,y9,zk,none,none,none]/\Kp H7/\H7 Al=some (.lst (as.map V.ref))/\LY H7 as gE/\as.length<=4 * i/\YB aa (aa.take i) gE) ⟨[],[],_,_,_,_,_,rfl,⟨s6,Ue,eE6,eM6,R9⟩,eA6,.nil,by simp,λru h=>(by simp at h)⟩ ?_ ?_ ?_⟩
 .rintro i σ H7 _ ⟨as,gE,y1,y2,y6,y9,zk,rfl,kp,_⟩;exact kp.1.seq hR
 .intro i x2 σ H7 pN lC
  ac_nf0
  obtain⟨as,gE,y1,y2,y6,y9,zk,rfl,kp,eA,pA,lA,aO⟩:=lC;have lj:=(bj.mp pN).1;rw [av] at lj;rw [bo] at pN;obtain⟨r,er,rfl⟩:=cf.mp pN;obtain⟨ru,e1,p,v1,v2⟩:=cS.get er;have iR:=DF.A1 ru (bZ e1);refine⟨r,_,rfl,kp.1.tup v1,rfl,_,_,rfl,_,_,rfl,rfl,?_⟩;refine⟨_,rfl,p,_,rfl,.inr (kp.1.tup v2),_,rfl,by rw [av];omega,by rw [av];omega,?_⟩;rw [av,gI];refine g9 (n:=ru.2.length) (λj σ H8=>∃(as:List Addr)(gE:List (Str×Str))(y9 zk:Option V),σ=[aM R,some (.str ru.1),aM p,aM D,aM En,aM M,y6,aM Em,aM Al,y9,zk,none,none,none]/\Kp H8/\H8 Al=some (.lst (as.map V.ref))/\LY H8 as gE/\as.length<=4 * i+j/\YB aa (aa.take i) gE/\∀(j2:Nat)(z2:Str),j2 < j->Iw aa ru j2 z2->(ru.1,z2)∈gE) ⟨as,gE,_,_,rfl,kp,eA,pA,by omega,aO,λj2 _ h=>by omega⟩ ?_ ?_
  .intro j σ H8 hj lC
   ac_nf0
   obtain⟨as,gE,y9,zk,rfl,kp,eA,pA,lA,aO,aJ⟩:=lC;obtain⟨z,ez⟩:∃z,ru.2[j]?=some z:=⟨ru.2[j]'(by omega),b9 (by omega)⟩;have atj:lQ (ru.2.map V.str) (0+(j:Int))=some (.str z):=by
    rw [jY];exact b_ (by rw [bo,ez];rfl)
   have eq1:=u3 ru.2 j;have eq2:=Ep ru.2 j;have lq1:(ru.2.take j).length<=ru.2.length:=by rw [dC];omega
   have lq2:(ru.2.drop (j+1)).length<=ru.2.length:=by rw [mv];omega
   have MV:∀y,y∈ru.2.take j++ru.2.drop (j+1)->∃k,k≠j/\ru.2[k]?=some y:=λy hy=>by
    rcases cg.mp hy with h | h
    .obtain⟨k,lk,ek⟩:=qE h;exact⟨k,by omega,ek⟩
    obtain⟨k,ek⟩:=iw h;rw [List.getElem?_drop] at ek;exact⟨j+1+k,by omega,ek⟩
   generalize ru.2.take j=q1 at eq1 lq1 MV;generalize ru.2.drop (j+1)=q2 at eq2 lq2 MV;refine goN ?_
   ac_rfl
   refine⟨_,rfl,_,rfl,_,rfl,p,_,rfl,kp.1.tup v2,λt1 H9 s9 e9=>?_⟩;rw [eq1] at e9;refine⟨_,rfl,_,rfl,_,_,rfl,rfl,_,rfl,p,_,rfl,s9.tup (kp.1.tup v2),λt2 HA sA eA2=>?_⟩;rw [eq2] at eA2;refine⟨t1,t2,_,_,rfl,rfl,sA.tup e9,eA2,fits (by rw [av,av];omega),λt3 HB sB eB=>?_⟩;rw [<-bF] at eB;refine goN ?_
   ac_rfl
   have U9:=s9.trans (sA.trans sB);have G8:=iZ kp U9;have XN:=U9 _ _ eA;have Y8:LY HB as gE:=Paired.eI pA λa pr z=>U9.tup z;have ym:∀{HC:Hp},aB HB HC->¬Iw aa ru j z->∃(as:List Addr)(gE:List (Str×Str))(y9' UG:Option V),[aM R,some (.str ru.1),aM p,aM D,aM En,aM M,y6,aM Em,aM Al,some (.int (0+(j:Int))),aM t3,none,none,none]=[aM R,some (.str ru.1),aM p,aM D,aM En,aM M,y6,aM Em,aM Al,y9',UG,none,none,none]/\Kp HC/\HC Al=some (.lst (as.map V.ref))/\LY HC as gE/\as.length<=4 * i+(j+1)/\YB aa (aa.take i) gE/\∀(j2:Nat)(z2:Str),j2 < j+1->Iw aa ru j2 z2->(ru.1,z2)∈gE:=λ{HC} sC nl=>⟨as,gE,_,_,rfl,iZ G8 sC,sC _ _ XN,Paired.eI Y8 λa pr z=>sC.tup z,by omega,aO,λj2 z2 h lo=>by
    by_cases c:j2 < j
    .exact aJ j2 z2 c lo
    have:j2=j:=by omega
    subst this;have e2:=lo.1;rw [ez] at e2;cases e2;exact absurd lo nl⟩
   refine⟨_,rfl,_,rfl,p,_,_,_,rfl,rfl,G8.1.tup v2,atj,_,rfl,D,_,rfl,.inl (aG.of G8.2.1),rfl,df _,_,rfl,?_⟩;refine cD (λc1=>?_) (λc1=>?_)
   .refine⟨_,rfl,t3,rfl,⟨_,eB⟩,λD2 i4=>lH (zs:=q1++q2) [aM Em] (λz=>decide (z∈cE false aa)) rfl eB (by rw [bp];omega) i4 (λz _ H5 Qy s5 hq=>?_) λHC sC eC=>?_⟩
    .refine⟨_,rfl,_,rfl,Em,_,rfl,.inl (aG.of (s5 _ _ G8.2.2.2.2)),rfl,df _,?_⟩;rw [gi];exact hq
    refine⟨D2,_,rfl,aG.of eC,_,rfl,?_⟩;refine cD (λc2=>?_) (λc2=>?_)
    .have kpC:=iZ G8 sC;refine⟨_,rfl,.inl ⟨rfl,_,aG.of (sC _ _ XN)⟩,_,rfl,_,rfl,_,rfl,p,_,_,_,rfl,rfl,kpC.1.tup v2,atj,oJ,λt ht=>?_⟩;have kD:=af ht (.tup [.str ru.1,.str z]);have sD:=sC.trans kD;have vD:aR K (upd HC t (.tup [.str ru.1,.str z])) t [.str ru.1,.str z]:=aR.of ae;generalize upd HC t (.tup [.str ru.1,.str z])=HD at kD sD vD;have XM:=sD _ _ XN;refine⟨Al,_,_,rfl,rfl,XM,bE (by rw [av];omega),?_⟩;exact⟨as++[t],gE++[(ru.1,z)],_,_,rfl,QO (iZ G8 sD),by rw [ae,bF];rfl,gW (Paired.eI Y8 λa pr z=>aW XM (sD.tup z)) (aW XM vD),by rw [bp];simp;omega,λr Lq j2 z2 lo=>iG _ (aO r Lq j2 z2 lo),λj2 z2 h lo=>by
      by_cases c:j2 < j
      .exact iG _ (aJ j2 z2 c lo)
      have:j2=j:=by omega
      subst this;have e2:=lo.1;rw [ez] at e2;cases e2;exact fS _ cI⟩
    refine ym sC λlo=>c2 ?_;rw [all_map];refine gq.mpr λy hy=>bM ?_;obtain⟨k,nk,ek⟩:=MV y hy;exact lo.2.2 k y nk ek
   refine dq ?_;exact ym (λ_ _ h=>h) λlo=>c1 ((gi _ _).trans (bM lo.2.1))
  rintro σ H8 ⟨as,gE,y9,zk,rfl,kp,eA,pA,lA,aO,aJ⟩;refine⟨as,gE,_,_,_,_,_,rfl,kp,eA,pA,by omega,λr Lq j2 z2 lo=>?_⟩;rw [cP,e1] at Lq;rcases cg.mp Lq with h | h
  .exact aO r h j2 z2 lo
  have:r=ru:=bB.mp h;subst this;exact aJ j2 z2 (bj.mp lo.1).1 lo
 rintro σ H7 ⟨as,gE,y1,y2,y6,y9,zk,rfl,kp,eA,pA,lA,aO⟩;rw [av,ll] at lA aO;rw [cO] at aO;refine⟨rJ,λCm Xg=>?_⟩;have k8:=af Xg (.lst []);have V2:=iZ kp k8;have eA8:=k8 _ _ eA;have Y_:LY (upd H7 Cm (.lst [])) as gE:=Paired.eI pA λa pr z=>k8.tup z;have eC8:upd H7 Cm (.lst []) Cm=some (.lst []):=ae;have nC:∀b o,H7 b=some o->b≠Cm:=λb o h z=>by rw [z,Xg] at h;cases h
 have nCA:=nC _ _ eA;have nCD:=nC _ _ kp.2.1;have nCE:=nC _ _ kp.2.2.1;have nCM:=nC _ _ kp.2.2.2.1;have nCm:=nC _ _ kp.2.2.2.2;have fCm:H Cm=none:=kp.1.free Xg;have QN:∀{H7:Hp}{xs:List V},Kp H7->Kp (upd H7 Cm (.lst xs)):=λh=>⟨λb o hb=>by rw [ai (λz=>by rw [z,fCm] at hb;cases hb)];exact h.1 b o hb,by rw [ai nCD];exact h.2.1,by rw [ai nCE];exact h.2.2.1,by rw [ai nCM];exact h.2.2.2.1,by rw [ai nCm];exact h.2.2.2.2⟩;generalize upd H7 Cm (.lst [])=H8 at k8 V2 eA8 Y_ eC8;refine goN ?_
 ac_rfl
 have lap:=a_ pA;refine⟨_,rfl,R,rfl,⟨_,V2.1.seq hR⟩,cQ (xs:=rs.map V.ref) (λi σ H9=>∃(cs:List Str)(y1 y2 y6 y9 zk Jg Jf:Option V),σ=[aM R,y1,y2,aM D,aM En,aM M,y6,aM Em,aM Al,y9,zk,aM Cm,Jg,Jf]/\Kp H9/\H9 Al=some (.lst (as.map V.ref))/\LY H9 as gE/\H9 Cm=some (.lst (cs.map V.str))/\cs.length<=8 * i/\Pn aa gE cs) ⟨[],_,_,_,_,_,_,_,rfl,V2,eA8,Y_,eC8,by simp,⟨by simp,λ_ h=>(by cases h),λi h e=>(by cases e)⟩⟩ ?_ ?_ ?_⟩
 .rintro i σ H9 _ ⟨cs,y1,y2,y6,y9,zk,Jg,Jf,rfl,IJ,_⟩;exact IJ.1.seq hR
 .intro i x σ H9 ex lC
  ac_nf0
  obtain⟨cs,y1,y2,y6,y9,zk,Jg,Jf,rfl,IJ,eA9,Y9,LH,lC9,Sh⟩:=lC;have li:=(bj.mp ex).1;rw [av] at li;refine goN ?_
  ac_nf
  refine⟨_,rfl,D,rfl,⟨_,aG.of IJ.2.1⟩,cQ (xs:=(hm aa).map V.str) (λj σ HA=>∃(cs:List Str)(Jg Jf:Option V),σ=[aM R,y1,y2,aM D,aM En,aM M,some x,aM Em,aM Al,y9,zk,aM Cm,Jg,Jf]/\Kp HA/\HA Al=some (.lst (as.map V.ref))/\LY HA as gE/\HA Cm=some (.lst (cs.map V.str))/\cs.length<=8 * i+j/\Pn aa gE cs) ⟨cs,_,_,rfl,IJ,eA9,Y9,LH,by omega,Sh⟩ ?_ ?_ ?_⟩
  .rintro j σ HA _ ⟨cs,Jg,Jf,rfl,QP,_⟩;exact aG.of QP.2.1
  .intro j x2 σ HA pN lC
   ac_nf0
   obtain⟨cs,Jg,Jf,rfl,QP,O8,Qh,O7,Zu,Uk⟩:=lC;have lj:=(bj.mp pN).1;rw [av] at lj;rw [bo] at pN;obtain⟨nm,enm,rfl⟩:=cf.mp pN;refine goN ?_
   ac_rfl
   refine⟨_,rfl,Al,rfl,⟨_,aG.of O8⟩,λD2 i4=>cH (xs:=as.map V.ref) (λk ys σ2 HB=>∃zs:List Str,ys=zs.map V.str/\zs.length<=k/\(∃y0,σ2=[y0,some (.str nm)])/\aB HA HB/\HB D2=some (.lst ys)/\∀pr∈gE.take k,pr.1=nm->pr.2∈zs)
    ⟨[],rfl,aD _,⟨none,rfl⟩,af i4 _,ae,λ_ h=>(by simp at h)⟩ (λk ys σ2 HB _ h=>?_) (λk v ys σ2 HB ex h=>?_) (λys σ2 HB h=>?_)⟩
   .obtain⟨_,_,_,_,sB,_⟩:=h;exact aG.of (sB _ _ O8)
   .obtain⟨zs,rfl,lz,⟨u0,rfl⟩,sB,eB,zA⟩:=h;have lk:=(bj.mp ex).1;rw [av] at lk;rw [bo] at ex;obtain⟨a,ea,rfl⟩:=cf.mp ex;obtain⟨pr,epr⟩:∃pr,gE[k]?=some pr:=⟨gE[k]'(by omega),b9 (by omega)⟩;obtain⟨a',R7,va⟩:=Paired.at_ Qh k pr epr;rw [ea] at R7;cases R7;refine goN ?_;have tk:gE.take (k+1)=gE.take k++[pr]:=by rw [cP,epr];rfl
    refine⟨_,rfl,a,_,_,_,rfl,rfl,sB.tup va,rfl,_,rfl,rfl,_,rfl,?_⟩;refine cD (λc1=>?_) (λc1=>?_)
    .refine⟨_,rfl,a,_,_,_,rfl,rfl,sB.tup va,rfl,eB,bE (by rw [av];omega),zs++[pr.2],by rw [bF];rfl,by rw [bp];simp;omega,⟨_,rfl⟩,λb o hb=>?_,ae,λp2 oK e2=>?_⟩
     .rw [ai (λz=>by rw [z,i4] at hb;cases hb)];exact sB b o hb
     rw [tk] at oK;rcases cg.mp oK with h | h
     .exact iG _ (zA p2 h e2)
     rw [bB.mp h];exact fS _ cI
    refine⟨zs,rfl,by omega,⟨_,rfl⟩,sB,eB,λp2 oK e2=>?_⟩;rw [tk] at oK;rcases cg.mp oK with h | h
    .exact zA p2 h e2
    have:p2=pr:=bB.mp h;rw [this] at e2;exact absurd (bM (congrArg V.str e2)) c1
   obtain⟨zs,rfl,lz,_,sB,eB,zA⟩:=h;rw [av] at lz zA;rw [lap,cO] at zA;refine goN ?_
   ac_rfl
   have G8:=iZ QP sB;have ym:∀{HC:Hp},aB HB HC->∃(cs:List Str)(UE UD:Option V),[aM R,y1,y2,aM D,aM En,aM M,some x,aM Em,aM Al,y9,zk,aM Cm,some (.str nm),aM D2]=[aM R,y1,y2,aM D,aM En,aM M,some x,aM Em,aM Al,y9,zk,aM Cm,UE,UD]/\Kp HC/\HC Al=some (.lst (as.map V.ref))/\LY HC as gE/\HC Cm=some (.lst (cs.map V.str))/\cs.length<=8 * i+(j+1)/\Pn aa gE cs:=λ{HC} sC=>⟨cs,_,_,rfl,iZ G8 sC,sC _ _ (sB _ _ O8),Paired.eI Qh λa pr z=>sC.tup (sB.tup z),sC _ _ (sB _ _ O7),by omega,Uk⟩;refine⟨_,rfl,D2,rfl,⟨_,aG.of eB⟩,λD3 yz=>ql (zs:=zs) [aM Cm] (λz=>decide (z∈cs)) rfl (aG.of eB) (by omega) yz (λz _ H5 Qy s5 hq=>?_) λHC sC eC=>?_⟩
   .refine⟨_,rfl,_,rfl,Cm,_,rfl,.inl (aG.of (s5 _ _ (sB _ _ O7))),rfl,df _,?_⟩;rw [gi];exact hq
   refine⟨D3,_,rfl,aG.of eC,_,rfl,?_⟩;refine cD (λc2=>?_) (λc2=>?_)
   .refine⟨_,rfl,_,rfl,Cm,_,rfl,.inl (aG.of (sC _ _ (sB _ _ O7))),rfl,df _,_,rfl,?_⟩;refine cD (λc1=>?_) (λc1=>?_)
    .have XJ:=sC _ _ (sB _ _ O7);have nc:nm∉cs:=λh=>by
      have c1':(!Np (V.str nm) (cs.map V.str))=true:=c1;rw [gi,bM h] at c1';cases c1'
     have ac:∀z∈zs,z∈cs:=λz hz=>by
      rw [all_map] at c2;exact dw (gq.mp c2 z hz)
     refine⟨_,rfl,.inl ⟨rfl,_,aG.of XJ⟩,_,rfl,Cm,_,_,rfl,rfl,XJ,bE (by rw [av];omega),?_⟩;exact⟨cs++[nm],_,_,rfl,QN (iZ G8 sC),by rw [ai nCA];exact sC _ _ (sB _ _ O8),Paired.eI Qh λa pr z=>aW XJ (sC.tup (sB.tup z)),by rw [ae,bF];rfl,by rw [bp];simp;omega,Uk.add nc (bZ enm) λz hz=>ac z (zA (nm,z) hz rfl)⟩
    exact ym sC
   refine dq ?_;exact ym sC
  rintro σ HA ⟨cs,Jg,Jf,rfl,QP,O8,Qh,O7,Zu,Uk⟩;rw [av,Lr] at Zu;exact⟨cs,_,_,_,_,_,_,_,rfl,QP,O8,Qh,O7,by omega,Uk⟩
 rintro σ H9 ⟨cs,y1,y2,y6,y9,zk,Jg,Jf,rfl,IJ,eA9,Y9,LH,lC9,Sh⟩;refine⟨_,rfl,D,rfl,⟨_,aG.of IJ.2.1⟩,λD3 yz=>ql (zs:=hm aa) [aM En,aM M,aM Cm] (λz=>decide (z∈cE true aa) && (decide (z∈ms) && decide (z∈cs))) rfl (aG.of IJ.2.1) (by omega) yz (λz _ H5 Qy s5 hq=>?_) λHC sC eC=>?_⟩
 .refine⟨_,rfl,_,rfl,En,_,rfl,.inl (aG.of (s5 _ _ IJ.2.2.1)),rfl,df _,_,rfl,?_⟩;rw [gi];show if decide (z∈cE true aa)=true then _ else _;refine cD (λc=>?_) (λc=>?_)
  .rw [c,j4] at hq;refine⟨_,rfl,_,rfl,M,_,rfl,.inl (aG.of (s5 _ _ IJ.2.2.2.1)),rfl,df _,_,rfl,?_⟩;rw [gi];show if decide (z∈ms)=true then _ else _;refine cD (λc=>?_) (λc=>?_)
   .rw [c,j4] at hq;refine⟨_,rfl,_,rfl,Cm,_,rfl,.inl (aG.of (s5 _ _ LH)),rfl,df _,?_⟩;rw [gi];exact hq
   have c':decide (z∈ms)=false:=by simpa using c
   rw [c',qY] at hq;exact hq
  have c':decide (z∈cE true aa)=false:=by simpa using c
  rw [c',qY] at hq;exact hq
 refine⟨D3,_,rfl,aG.of eC,?_⟩;rw [all_map];refine q _ _ (IJ.1.trans sC) λhb=>⟨ms,cs,?_⟩;have al:=λz hz=>fj.mp (gq.mp hb z hz);refine⟨λz hz=>dw (al z hz).1,mO,λz hz=>dw (fj.mp (al z hz).2).1,Sh.cn,Sh.ch,λi h e ru iR er j z lo=>?_,λz hz=>dw (fj.mp (al z hz).2).2⟩;exact Sh.co i h e z (er ▸ aO ru iR j z lo)
end
theorem cu {α β:Type}{F:α->β->Prop}:∀{xs:List α}{ys:List β}{Jh:List α}{YC:List β},Paired F xs ys->Paired F Jh YC->Paired F (xs++Jh) (ys++YC)
 | _,_,_,_,.nil,h=>h
 | _,_,_,_,.cons a b,h=>.cons a (cu b h)
def l_ {aa:List au}{x:Str}:x∈hm aa↔x∈hd aa:=by
 constructor
 .intro h;obtain⟨ru,a,b⟩:=cx.mp h;exact b ▸ sO a
 intro h;obtain⟨ru,a,b⟩:=Ls h;exact cx.mpr ⟨ru,a,b⟩
def CG.Qj {aa:List au}{eV ms cs:List Str}(g:CG aa ms cs)(n3:eV.length<=3)(xt:∀ru∈aa,ru.1∈eV)(p3:∀ru∈aa,ru.2.length<=3):zc aa eV (cE true aa) ms cs:=by
 have To:∀x∈hm aa,x∈eV:=λx hx=>by
  obtain⟨ru,a,b⟩:=cx.mp hx;exact b ▸ xt ru a
 have eo:=HR true aa;refine⟨n3,xt,p3,eo.nd,λx hx=>To x (eo.sub x hx),λi h e=>?_,λh hh=>g.en h (l_.mpr hh),g.mo,λh hh=>g.ma h (l_.mpr hh),g.cn,λx hx=>To x (g.ch x hx),λi h e ru iR er j z ez hz OU=>?_,λh hh=>g.ca h (l_.mpr hh)⟩
 .obtain⟨bC,a,b⟩:=eo.ord i h e;exact⟨bC,a,λp hp=>(b p hp).imp id λq z=>q.2 (l_.mpr z)⟩
 exact g.co i h e ru iR er j z ⟨ez,l_.mpr hz,λk y nk ey=>HS (OU k y nk ey)⟩
def CP {aa:List au}{eV ws:List Str}(nd:eV.Nodup)(n0:0 < eV.length)(n3:eV.length<=3)(dj:∀x∈eV,x∉ws)(hl:aa.length=eV.length)
  (hs:∀(j:Nat)(ru:au),aa[j]?=some ru->eV[j]?=some ru.1/\pS eV ws j ru.2):zc aa eV eV.reverse eV eV:=by
 have at_:∀(a:Nat)(h:Str),eV[a]?=some h->∃bC,aa[a]?=some (h,bC)/\pS eV ws a bC:=λa h e=>by
  have la:=(bj.mp e).1;have e2:aa[a]?=some (aa[a]'(by omega)):=b9 (by omega);obtain⟨x1,x2⟩:=hs a _ e2;rw [e] at x1;refine⟨(aa[a]'(by omega)).2,?_,x2⟩;rw [e2]
  congr 1
  exact Prod.ext (iu x1).symm rfl
 have B4:∀ru∈aa,∃a:Nat,eV[a]?=some ru.1/\pS eV ws a ru.2:=λru h=>by
  obtain⟨a,e⟩:=iw h;exact⟨a,hs a ru e⟩
 have TL:∀x,x∈hd aa->x∈eV:=λx hx=>by
  obtain⟨ru,a,b⟩:=Ls hx;obtain⟨k,e,_⟩:=B4 ru a;exact b ▸ bZ e
 have wN:∀x∈ws,x∉hd aa:=λx hx h=>dj x (TL x h) hx;refine⟨n3,λru h=>?_,λru h=>?_,List.pairwise_reverse.mpr (nd.imp λh=>h.symm),λx hx=>List.mem_reverse.mp hx,λi h e=>?_,λh hh=>List.mem_reverse.mpr (TL h hh),λi h e=>?_,λh hh=>TL h hh,nd,λ_ h=>h,λi h e ru iR er j z ez hz OU=>?_,λh hh=>TL h hh⟩
 .obtain⟨a,e,_⟩:=B4 ru h;exact bZ e
 .obtain⟨a,e,sk⟩:=B4 ru h;rcases sk with ⟨n',wx,_,_,_,l2,h | h⟩ | ⟨_,_,l2⟩
  .rw [h,bp];simp;omega
  .rw [h,dQ];omega
  omega
 .have li:=(bj.mp e).1;rw [qP] at li;rw [vI li] at e;obtain⟨bC,e2,sk⟩:=at_ _ h e;refine⟨bC,bZ e2,λp hp=>?_⟩;rcases sk with ⟨n',wx,e3,_,hw,_,qy⟩ | ⟨_,hw,_⟩
  .have cs:p=n'\/p∈wx:=by
    rcases qy with h | h
    .rw [h] at hp;rcases cg.mp hp with q | q
     .exact .inr q
     exact .inl (bB.mp q)
    rw [h] at hp;rcases bX.mp hp with q | q
    .exact .inl q
    exact .inr q
   rcases cs with rfl | q
   .left;have l3:=(bj.mp e3).1;have e4:eV.reverse[i - 1]?=some p:=by
     rw [vI (by omega),<-e3]
     congr 1
     omega
    refine bZ (i:=i - 1) ?_;rw [rH (by omega)];exact e4
   exact .inr (wN p (hw p q))
  exact .inr (wN p (hw p hp))
 .match i,e with
  | 0,e =>
   obtain⟨bC,e2,_⟩:=at_ 0 h e;exact .inl ⟨_,e2,rfl⟩
  | i+1,e =>
   have li:=(bj.mp e).1;have e5:eV[i]?=some (eV[i]'(by omega)):=b9 (by omega);obtain⟨bC,e2,sk⟩:=at_ i _ e5;refine .inr ⟨_,bZ e2,?_,?_⟩
   .refine bZ (i:=i) ?_;rw [rH (by omega)];exact e5
   rcases sk with ⟨n',wx,e3,_,hw,_,qy⟩ | ⟨l,_,_⟩
   .rw [e] at e3;cases e3;show h∈bC;rcases qy with q | q
    .rw [q];exact fS _ cI
    rw [q];exact cI
   omega
 exfalso;obtain⟨a,_,sk⟩:=B4 ru iR;rcases sk with ⟨n',wx,_,SD,hw,_,qy⟩ | ⟨_,hw,_⟩
 .obtain⟨y,hy⟩:=List.exists_mem_of_ne_nil wx SD;have hy2:y∈ru.2:=by
   rcases qy with q | q
   .rw [q];exact iG _ hy
   rw [q];exact cV _ hy
  obtain⟨k,ek⟩:=iw hy2;by_cases c:k=j
  .subst c;rw [ez] at ek;cases ek;exact wN _ (hw _ hy) hz
  exact wN y (hw y hy) (LD (OU k y c ek))
 exact wN z (hw z (bZ ez)) hz
def zc.en {aa:List au}{eV E M Pl:List Str}(O:zc aa eV E M Pl):∀z∈hm aa,z∈cE true aa:=λz hz=>by
 have all:∀(n i:Nat)(h:Str),i < n->E[i]?=some h->h∈cE true aa:=by
  intro n
  induction n with
  | zero=>intro i h l;omega
  | succ n ih =>
   intro i h l e;obtain⟨bC,a,b⟩:=O.eO i h e;refine oB a λp hp=>?_;rcases b p hp with q | q
   .obtain⟨j,lj,ej⟩:=qE q;exact .inl (ih j p (by omega) ej)
   exact .inr ⟨rfl,λw=>q (l_.mp w)⟩
 obtain⟨i,e⟩:=iw (O.eA z (l_.mp hz));exact all (i+1) i z (by omega) e
def LX (aa:List au)(rk:Str->Nat):Prop:=(∀x,rk x<=3)/\∀ru∈aa,∀(j:Nat)(z:Str),ru.2[j]?=some z->z∈hd aa->(∀(k:Nat)(y:Str),k≠j->ru.2[k]?=some y->Em aa y)->rk z < rk ru.1
theorem Hc:∀(l:List Str)(x:Str),EN l x<=l.length
 | [],x=>aD _
 | a::r,x=>by
  unfold EN;by_cases c:a=x
  .rw [ax c];exact fh _
  rw [aw c];exact Nat.succ_le_succ (Hc r x)
def zc.rank {aa:List au}{ns E M Pl:List Str}(o:zc aa ns E M Pl):LX aa (EN Pl):=by
 refine⟨λx=>?_,λru iR j z ez hz h=>?_⟩
 .have h1:=Hc Pl x;have h2:=iO _ _ o.lN o.Zt;have h3:=o.n3;omega
 exact n_ _ _ _ (o.lO _ _ (sL Pl ru.1 (o.lA _ (sO iR))) ru iR rfl j z ez hz h)
structure Sv (c:Int)(aa:List au):Prop where
 one:1<=aa.length
 six:aa.length<=6
 ins:∀ru∈aa,ru.1∈di c/\ru.2.length<=3/\∀x∈ru.2,x∈di c++iQ c
 en:∀z∈hm aa,z∈cE true aa
 rank:∃rk,LX aa rk
 good:∃rk b,Good aa rk b
section
def Fn (K:a8):Sp:=λvs H Q _=>∃(S:Addr)(ns:List Int) (at_:Nat),vs=[.ref S,.int (at_:Int)]/\aG K H S (ns.map V.int)/\ns.length<=1000 /\
 ∀(c:Int)(R:Addr)(rs:List Addr)(aa:List au)(H':Hp),c=cellAt ns at_->H R=none->aB H H'->H' R=some (.lst (rs.map V.ref))->bI K H' rs aa->Sv c aa->Q (.ref R) H'
def mH:aI ["_law_script","_law_at","_law_cell","_law_names_here","_law_words_here","_law_rules","_law_more_here","_law_free"] ["_law_script","_law_at"] (ay FD):=iS rfl rfl rfl rfl (by decide +kernel)
def JN (F:ix K "_law_grammar" "_law_grammar" FD f fd)(T:Txt mg)(GC:aE P w K mg base 2 "_law_cell_at" ["_law_script","_law_k"] (vX K))(GN:aE P w K mg base 2 "_law_names" ["_law_cell"] BK)(GW:aE P w K mg base 2 "_law_words" ["_law_cell"] xM)
  (GS:aE P w K mg base 2 "_law_skeleton" ["_law_script","_law_at","_law_names_here","_law_words_here"] (Fi K))(GM:aE P w K mg base 2 "_law_more" ["_law_script","_law_at","_law_names_here","_law_many","_law_words_here"] (Fl K))(GG:aE P w K mg base 2 "_law_good" ["_law_rules"] (Fo K)) :
  bQ P w K mg base fX 3 f fd ["_law_script","_law_at"] (Fn K):=by
 refine F.ok mH (λvs H Q E h=>?_) (λeJ A outer s H vs Q E hr h=>?_)
 .obtain⟨S,ns,at_,rfl,_⟩:=h;rfl
 obtain⟨S,ns,at_,rfl,hS,hn,q⟩:=h;refine⟨_,aj (aC (i:=2) mH.nd rfl (bA rfl) (bc GC hr rfl (ab (pv 0) (ab (pv 1) ah))))
  (aj (aC (i:=3) mH.nd rfl (bA rfl) (bc GN hr rfl (ab (pv 2) ah)))
  (aj (aC (i:=4) mH.nd rfl (bA rfl) (bc GW hr rfl (ab (pv 2) ah)))
  (aj (aC (i:=5) mH.nd rfl (bA rfl) (bc GS hr rfl (ab (pv 0) (ab (aZ fY (pv 1) ar) (ab (pv 3) (ab (pv 4) ah))))))
  (aj (aC (i:=6) mH.nd rfl (bA rfl) (bc GM hr rfl (ab (pv 0) (ab (aZ fY (pv 1) ar) (ab (pv 3) (ab (aZ fJ (aZ fQ (pv 2) ar) ar) (ab (pv 4) ah)))))))
  (aj (qI (bT (bw iN (aZ fJ (aZ fQ (pv 2) ar) ar) ar (bV _))
   (aj (aC (i:=7) mH.nd rfl (bA rfl) (bc GM hr rfl (ab (pv 0) (ab (aZ fY (pv 1) ar) (ab (pv 3) (ab (aZ fY ar (aZ fJ (aZ fQ (pv 2) ar) ar)) (ab (pv 4) ah)))))))
   (ak (bT (dF (bc GG hr rfl (ab (pv 7) ah))) (ak (aQ (pv 7))) aS))) aS))
  (aj (bT (dF (bc GG hr rfl (ab (aZ jO (pv 5) (pv 6)) ah))) (ak (aQ (aZ jO (pv 5) (pv 6)))) aS)
  (ak (aQ (pv 5))))))))),?_⟩
 refine⟨_,rfl,_,rfl,S,ns,at_,rfl,hS,hn,λc hc=>?_⟩;have gl:=sS c;have wl:=AV c;refine⟨_,rfl,c,rfl,λN H1 fN s1 eN=>?_⟩;refine⟨_,rfl,c,rfl,λW H2 fW s2 eW=>?_⟩;have FN:=s1.trans s2;have XF:=s2 _ _ eN;refine⟨_,rfl,_,rfl,_,_,rfl,rfl,_,rfl,_,rfl,S,N,W,ns,at_+1,di c,iQ c,(by show [V.ref S,V.int ((at_:Int)+1),V.ref N,V.ref W]=_;congr 3),FN.seq hS,hn,XF,eW,by omega,by omega,by omega,by omega,λR1 K4 kX H3 f3 s3 e3 Vg l3 YR=>?_⟩;have CT:=FN.trans s3;obtain⟨m,WJ⟩:∃m:Nat,c / 9 % 4=(m:Int):=⟨(c / 9 % 4).toNat,by omega⟩;refine⟨_,rfl,_,rfl,_,_,rfl,rfl,_,rfl,_,rfl,_,_,rfl,rfl,⟨by decide,by decide⟩,_,_,rfl,rfl,(by show (0:Int) < 4;decide),_,rfl,S,N,W,ns,at_+4,m,di c,iQ c,(by show [V.ref S,V.int ((at_:Int)+4),V.ref N,V.int (c / 9 % 4),V.ref W]=_;rw [WJ];congr 3),CT.seq hS,hn,s3 _ _ XF,s3 _ _ eW,by omega,by omega,by omega,by omega,λR2 MJ pD H4 f4 s4 e4 EJ l4 in4=>?_⟩;have xY:=CT.trans s4;have e34:=s4 _ _ e3;have MM:=Vg.same s4;have O1:=CP (DS c) gl.1 gl.2 (DT c) l3 YR;have in1:∀ru∈kX,ru.1∈di c/\ru.2.length<=3/\∀x∈ru.2,x∈di c++iQ c:=λru h=>by
  refine⟨O1.xt ru h,O1.p3 ru h,λx hx=>?_⟩;obtain⟨a,e⟩:=iw h;rcases (YR a ru e).2 with ⟨n',wx,en,_,hw,_,qy⟩ | ⟨_,hw,_⟩
  .have cs:x=n'\/x∈wx:=by
    rcases qy with h | h
    .rw [h] at hx;rcases cg.mp hx with q | q
     .exact .inr q
     exact .inl (bB.mp q)
    rw [h] at hx;rcases bX.mp hx with q | q
    .exact .inl q
    exact .inr q
   rcases cs with rfl | q
   .exact iG _ (bZ en)
   exact fS _ (hw x q)
  exact fS _ (hw x hx)
 have Qn:∀{aa:List au}{ms cs:List Str},CG aa ms cs->1<=aa.length->aa.length<=6->(∀ru∈aa,ru.1∈di c/\ru.2.length<=3/\∀x∈ru.2,x∈di c++iQ c)->Sv c aa:=λg a b i=>⟨a,b,i,g.en,⟨_,(g.Qj gl.2 (λru h=>(i ru h).1) λru h=>(i ru h).2.1).rank⟩,_,_,(g.Qj gl.2 (λru h=>(i ru h).1) λru h=>(i ru h).2.1).good⟩;have P4:∀{aa:List au},1<=aa.length->aa.length<=6->(∀ru∈aa,ru.1∈di c/\ru.2.length<=3/\∀x∈ru.2,x∈di c++iQ c)->Small aa:=λa b i=>⟨a,by omega,λru h=>by have:=(i ru h).2.1;omega⟩;refine⟨λσ H5=>∃y7,σ=[aM S,some (.int (at_:Int)),some (.int c),aM N,aM W,aM R1,aM R2,y7]/\aB H4 H5,?_,?_⟩
 .refine⟨_,rfl,_,_,rfl,rfl,⟨by decide,by decide⟩,_,_,rfl,rfl,(by show (0:Int) < 2;decide),rfl,_,rfl,?_⟩;refine cD (λcc=>?_) (λcc=>?_)
  .have Rg:1+c / 9 % 4=((m+1:Nat):Int):=by omega
   refine⟨_,rfl,_,rfl,_,_,rfl,rfl,_,rfl,_,rfl,_,_,rfl,rfl,⟨by decide,by decide⟩,_,_,rfl,rfl,(by show (0:Int) < 4;decide),_,_,rfl,rfl,_,rfl,S,N,W,ns,at_+4,m+1,di c,iQ c,(by show [V.ref S,V.int ((at_:Int)+4),V.ref N,V.int (1+c / 9 % 4),V.ref W]=_;rw [Rg];congr 3),xY.seq hS,hn,s4 _ _ (s3 _ _ XF),s4 _ _ (s3 _ _ eW),by omega,by omega,by omega,by omega,λR3 Y0 FR H5 f5 s5 e5 Y2 l5 ZF=>?_⟩;have BZ:=xY.trans s5;refine⟨_,rfl,R3,Y0,FR,rfl,aG.of e5,Y2,P4 (by omega) (by omega) ZF,λb H6 s6 hb=>⟨b,rfl,?_⟩⟩;refine cD (λc2=>?_) (λc2=>?_)
   .obtain⟨ms,cs,g⟩:=hb c2;exact⟨_,rfl,q c R3 Y0 FR H6 hc (xY.free f5) (BZ.trans s6) (s6 _ _ e5) (Y2.same s6) (Qn g (by omega) (by omega) ZF)⟩
   exact⟨_,rfl,s5.trans s6⟩
  exact⟨_,rfl,aB.refl _⟩
 rintro σ H5 ⟨y7,rfl,s5⟩;have BZ:=xY.trans s5;have eA:=s5 _ _ e34;have eB:=s5 _ _ e4;have aae:=a_ MM;have aad:=a_ EJ;have ZE:∀ru∈kX++pD,ru.1∈di c/\ru.2.length<=3/\∀x∈ru.2,x∈di c++iQ c:=λru h=>(cg.mp h).elim (in1 ru) (in4 ru);have EL:1<=(kX++pD).length/\(kX++pD).length<=6:=by rw [bp];omega
 have Y1:bI K H5 (K4++MJ) (kX++pD):=cu (MM.same s5) (EJ.same s5);refine⟨_,rfl,_,rfl,R1,R2,_,_,rfl,rfl,eA,eB,fits (by rw [av,av];omega),λR4 hR4=>?_⟩;rw [<-bF];have k6:=af hR4 (.lst ((K4++MJ).map V.ref));have e6:upd H5 R4 (.lst ((K4++MJ).map V.ref)) R4=some (.lst ((K4++MJ).map V.ref)):=ae;generalize upd H5 R4 (.lst ((K4++MJ).map V.ref))=H6 at k6 e6;have FK:=BZ.trans k6;refine⟨R4,K4++MJ,kX++pD,rfl,aG.of e6,Y1.same k6,P4 EL.1 EL.2 ZE,λb H7 s7 hb=>⟨b,rfl,?_⟩⟩;have uG:=k6.trans s7;refine cD (λc2=>?_) (λc2=>?_)
 .obtain⟨ms,cs,g⟩:=hb c2;refine⟨_,rfl,_,rfl,R1,R2,_,_,rfl,rfl,uG _ _ eA,uG _ _ eB,fits (by rw [av,av];omega),λR5 W8=>?_⟩;rw [<-bF];exact q c R5 (K4++MJ) (kX++pD) _ hc ((FK.trans s7).free W8) ((FK.trans s7).trans (af W8 _)) ae ((Y1.same uG).same (af W8 _)) (Qn g EL.1 EL.2 ZE)
 exact⟨_,rfl,q c R1 K4 kX H7 hc (FN.free f3) (FK.trans s7) (uG _ _ eA) ((MM.same s5).same uG) ⟨by omega,by omega,in1,O1.en,⟨_,O1.rank⟩,_,_,O1.good⟩⟩
end
end gR
namespace L2
open PySem PySem.Spec PyProof.Rows
def D_:List V->List V->Bool
 | [],[]=>true
 | x::xs,y::ys=>uX x y && D_ xs ys
 | _,_=>false
theorem uY:∀(xs ys:List V),((List.range (min xs.length ys.length)).all (λj=>uX (xs.getD j .eU) (ys.getD j .eU)) && (xs.length == ys.length))=D_ xs ys
 | [],[]=>rfl
 | [],y::ys=>by simp [D_]
 | x::xs,[]=>by simp [D_]
 | x::xs,y::ys=>by
  have ih:=uY xs ys;show _=(uX x y && D_ xs ys);rw [<-ih,dQ,dQ,Nat.succ_min_succ,List.range_succ_eq_map,List.all_cons,List.all_map];simp only [Function.comp_def,List.getD_cons_zero,List.getD_cons_succ,Nat.succ_eq_add_one];rw [Bool.and_assoc]
  congr 2
  simp
def A0 {A:Around}{s:Shared}{xs ys:List V}{aN d6:List Value}(r:aY xs aN)(r2:aY ys d6)(fx:xs.all gY=true)(fy:ys.all gY=true) (j:Nat)(h1:j < aN.toArray.size)(h2:j < d6.toArray.size) :
  SeqAt.EqAt A s aN.toArray[j] d6.toArray[j] (uX (xs.getD j .eU) (ys.getD j .eU)):=by
 have l1:=r.length;have l2:=r2.length;have k1:j < aN.length:=by simpa using h1
 have k2:j < d6.length:=by simpa using h2
 have g1:xs[j]?=some (xs[j]'(by omega)):=b9 (by omega);have g2:ys[j]?=some (ys[j]'(by omega)):=b9 (by omega);obtain⟨u1,e1,q1⟩:=r.get g1;obtain⟨u2,e2,q2⟩:=r2.get g2;have f1:aN.toArray[j]=u1:=by
  have:=(bj.mp e1).2;simpa using this
 have f2:d6.toArray[j]=u2:=by
  have:=(bj.mp e2).2;simpa using this
 rw [f1,f2];have d1:xs.getD j .eU=xs[j]'(by omega):=by rw [nr,g1];rfl
 have d2:ys.getD j .eU=ys[j]'(by omega):=by rw [nr,g2];rfl
 rw [d1,d2];exact A4 q1 q2 (gq.mp fx _ (pW _)) (gq.mp fy _ (pW _))
def HN {X:Cx}{ag:List (Addr×Obj)}{σ:St}{H:Hp}{s:Shared}(I:Inv X ag σ H s)(A:Around){a b:Addr}{xs ys:List V}(ha:aR X.K H a xs)(hb:aR X.K H b ys)(fx:xs.all gY=true)(fy:ys.all gY=true)(ne:a≠b)(hu:A.units < cLine):SeqAt.EqAt A s (.ref a) (.ref b) (D_ xs ys):=by
 refine .of_refs ne ?_;obtain⟨aN,r,pl,hz⟩:=I.tuple ha;obtain⟨d6,r2,zp,We⟩:=I.tuple hb;have l1:=r.length;have l2:=r2.length;have q:=SeqAt.RcAt.tuples (A:=A) (s:=s) (e:=λj=>uX (xs.getD j .eU) (ys.getD j .eU)) pl zp hu (λj h1 h2=>A0 r r2 fx fy j h1 h2);have e:((List.range (min aN.toArray.size d6.toArray.size)).all (λj=>uX (xs.getD j .eU) (ys.getD j .eU)) && aN.toArray.size == d6.toArray.size)=D_ xs ys:=by
  rw [<-uY];simp only [bN,<-l1,<-l2]
 rw [e] at q;exact q
def rL1 (K:a8):R2:=λx y H Q=>∃p q xs b ys,x=.ref p/\y=.ref q/\aG K H p xs/\aG K H q [.ref b]/\aR K H b ys/\ys.all gY=true /\
 ((xs=[]/\Q (.bl true) H)\/∃a zs,xs=[.ref a]/\a≠b/\aR K H a zs/\zs.all gY=true/\Q (.bl (!D_ zs ys)) H)
def Gh {X:Cx}(hu:X.A.units+1 < cLine):kx X (compareOp .NotEq) (rL1 X.K):=by
 intro ag s σ H x y v u Q I rx ry h;obtain⟨p,q,xs,b,ys,rfl,rfl,hp,hq,hb,fy,h⟩:=h;cases rx;cases ry;obtain⟨aN,r,pl,hz⟩:=I.list hp;obtain⟨d6,r2,zp,We⟩:=I.list hq;have l1:=r.length;have l2:=r2.length;rcases h with ⟨rfl,q⟩ | ⟨a,zs,rfl,ne,ha,fz,q⟩
 .refine SeqAt.RcNeAt.lists_lengths pl.isList zp.isList ?_ (by omega) X.prog X.w X.xe _ ⟨.bl true,H,I,rfl,q⟩;rw [bN,bN,<-l1,<-l2];rfl
 refine SeqAt.RcNeAt.lists (e:=λ_=>D_ zs ys) pl.isList zp.isList (by simp only [bN];rw [<-l1,<-l2];rfl) (by omega) (λj h1 h2=>?_) X.prog X.w X.xe _ ?_
 .have j0:j=0:=by
   simp only [bN,<-l1,d8] at h1;omega
  subst j0;obtain⟨u1,e1,q1⟩:=r.get (show [V.ref a][0]?=some (.ref a) from rfl);obtain⟨u2,e2,q2⟩:=r2.get (show [V.ref b][0]?=some (.ref b) from rfl);have f1:aN.toArray[0]=u1:=by
   have:=(bj.mp e1).2;simpa using this
  have f2:d6.toArray[0]=u2:=by
   have:=(bj.mp e2).2;simpa using this
  rw [f1,f2];cases (show u1=Value.ref a from q1);cases (show u2=Value.ref b from q2);exact HN I X.A.in1 ha hb fz fy ne (by rw [q8];omega)
 have e:(!(List.range aN.toArray.size).all λ_=>D_ zs ys)=!D_ zs ys:=by
  rw [bN,<-l1];cases D_ zs ys <;> rfl
 rw [e];exact⟨.bl _,H,I,rfl,q⟩
open PySem
def Vl (K:a8):R2:=λx y H Q=>∃y',y=.str y'/\((∃z,x=.str z/\Q (.bl (decide (V.str z=V.str y'))) H)\/∃a xs,x=.ref a/\aR K H a xs/\Q (.bl false) H)
def Gi {X:Cx}(hu:X.A.units < cLine):kx X (compareOp .Eq) (Vl X.K):=by
 intro ag s σ H x y v u Q I rx ry h;obtain⟨y',rfl,h⟩:=h;rcases h with ⟨z,rfl,q⟩ | ⟨a,xs,rfl,ha,q⟩
 .exact iN ag s σ H _ _ v u Q I rx ry ⟨rfl,q⟩
 cases rx;obtain⟨t,rfl⟩:=ry;obtain⟨aN,r,pl,hz⟩:=I.tuple ha;exact SeqAt.RcAt.tuple_str y' t pl hu X.prog X.w X.xe _ ⟨.bl false,H,I,rfl,q⟩
end L2
namespace gR
open PySem L2 M11
abbrev z7:Stmt:=top 6
section
def wR:PySem.W.kitOne K (.type "tuple") (.type "str")=some false:=by kernel_rfl
def Nh:PySem.W.kitOne K (.type "str") (.type "int")=some false:=by kernel_rfl
def kit_is:PySem.W.kitOne K (.type "int") (.type "str")=some false:=by kernel_rfl
def Ni:PySem.W.kitOne K (.type "bool") (.type "int")=some true:=by kernel_rfl
def Ir (m:Nat)(y:V):Prop:=(∃n:Int,y=.int n/\¬(0<=n/\n < (m:Int)))\/(∃t,y=.bl t)\/∃z,y=.str z
def BR:Sp:=λvs H Q _=>∃(y:V) (m:Nat),vs=[y,.int (m:Int)]/\((∃k:Nat,y=.int (k:Int)/\k < m/\Q (.bl true) H)\/(Ir m y/\Q (.bl false) H))
def Jv:aI ["number","many"] ["number","many"] (ay z7):=iS rfl rfl rfl rfl (by decide +kernel)
def GA (F:ix K "is_number_below" "is_number_below" z7 f fd)(T:Txt mg):bQ P w K mg base fX 1 f fd ["number","many"] BR:=by
 refine F.ok Jv (λvs H Q E h=>?_) (λeJ A outer s H vs Q E hr h=>?_)
 .obtain⟨y,m,rfl,_⟩:=h;rfl
 obtain⟨y,m,rfl,h⟩:=h;refine⟨_,ak (aQ (jM (aF cJ rfl T.ER j_ (ab (pv 0) (ab (gh (v:=.ty "int") rfl T.int PyProof.Rows.boot_int rfl) ah)))
  (jM (F_ (aF cJ rfl T.ER j_ (ab (pv 0) (ab (gh (v:=.ty "bool") rfl T.boo PyProof.Rows.boot_bool rfl) ah))))
  (jL (Gd Qk qg ar (pv 0) (pv 1)))))),?_⟩
 dsimp only [Ba];rcases h with ⟨k,rfl,hk,q⟩ | ⟨⟨n,rfl,hn⟩ | ⟨t,rfl⟩ | ⟨z,rfl⟩,q⟩
 .refine⟨_,rfl,.int k,"int","int",true,rfl,.int k,dX,true,rfl,?_⟩;refine g8 ?_;refine⟨_,rfl,.int k,"int","bool",false,rfl,.int k,AH,false,rfl,true,rfl,?_⟩;refine g8 ?_;refine⟨_,rfl,_,_,rfl,rfl,_,rfl,?_⟩;refine cD (λ_=>?_) (λc=>absurd (bM (by omega)) c);refine⟨_,rfl,_,_,rfl,rfl,?_⟩;show Q (.bl (decide ((k:Int) < (m:Int)))) H;rw [bM (by omega)];exact q
 .refine⟨_,rfl,.int n,"int","int",true,rfl,.int n,dX,true,rfl,?_⟩;refine g8 ?_;refine⟨_,rfl,.int n,"int","bool",false,rfl,.int n,AH,false,rfl,true,rfl,?_⟩;refine g8 ?_;refine⟨_,rfl,_,_,rfl,rfl,_,rfl,?_⟩;refine cD (λc=>?_) (λc=>?_)
  .refine⟨_,rfl,_,_,rfl,rfl,?_⟩;show Q (.bl (decide (n < (m:Int)))) H;have c':=dw c;rw [cU (λl=>hn ⟨c',l⟩)];exact q
  have e:V.bl (decide ((0:Int)<=n))=V.bl false:=by
   cases hh:decide ((0:Int)<=n) with
   | true=>exact absurd hh c
   | false=>rfl
  first
   | exact q
   | (rw [e];exact q)
 .refine⟨_,rfl,.bl t,"bool","int",true,rfl,.bl t,Ni,true,rfl,?_⟩;refine g8 ?_;refine⟨_,rfl,.bl t,"bool","bool",true,rfl,.bl t,dX,true,rfl,false,rfl,?_⟩;refine dq ?_;exact q
 refine⟨_,rfl,.str z,"str","int",false,rfl,.str z,Nh,false,rfl,?_⟩;refine dq ?_;exact q
end
mutual
inductive Tr
 | w (z:Str)
 | n (k:Nat)(cs:gU)
inductive gU
 | nil
 | cons (t:Tr)(r:gU)
end
def gU.kn:gU->List Tr
 | .nil=>[]
 | .cons t r=>t::r.kn
mutual
def gG (K:a8)(H:Hp):Tr->V->Prop
 | .w z,v=>v=.str z
 | .n k cs,v=>∃a p vs,v=.ref a/\aR K H a [.int (k:Int),.ref p]/\aR K H p vs/\ip K H cs vs
def ip (K:a8)(H:Hp):gU->List V->Prop
 | .nil,vs=>vs=[]
 | .cons t r,vs=>∃v Mc,vs=v::Mc/\gG K H t v/\ip K H r Mc
end
mutual
def row:Tr->List Str
 | .w z=>[z]
 | .n _ cs=>rows cs
def rows:gU->List Str
 | .nil=>[]
 | .cons t r=>row t++rows r
end
mutual
def sz:Tr->Nat
 | .w _=>1
 | .n _ cs=>1+zM cs
def zM:gU->Nat
 | .nil=>0
 | .cons t r=>sz t+zM r
end
mutual
def dp:Tr->Nat
 | .w _=>0
 | .n _ cs=>1+Ks cs
def Ks:gU->Nat
 | .nil=>0
 | .cons t r=>max (dp t) (Ks r)
end
mutual
def Is (aa:List au):Tr->Str->Prop
 | .w z,x=>x=z/\z∉hd aa
 | .n k cs,x=>∃bC,aa[k]?=some (x,bC)/\xx aa cs bC
def xx (aa:List au):gU->List Str->Prop
 | .nil,ps=>ps=[]
 | .cons t r,ps=>∃p EK,ps=p::EK/\Is aa t p/\xx aa r EK
end
section
variable {K:a8}
mutual
theorem gG.keep {H H':Hp}(k:∀a xs,aR K H a xs->aR K H' a xs):∀(t:Tr){v:V},gG K H t v->gG K H' t v
 | .w z,v,h=>by unfold gG at *;exact h
 | .n m cs,v,h=>by
  unfold gG at *;obtain⟨a,p,vs,e,h1,h2,h3⟩:=h;exact⟨a,p,vs,e,k _ _ h1,k _ _ h2,ip.keep k cs h3⟩
theorem ip.keep {H H':Hp}(k:∀a xs,aR K H a xs->aR K H' a xs):∀(ts:gU){vs:List V},ip K H ts vs->ip K H' ts vs
 | .nil,vs,h=>by unfold ip at *;exact h
 | .cons t r,vs,h=>by
  unfold ip at *;obtain⟨v,Mc,e,h1,h2⟩:=h;exact⟨v,Mc,e,gG.keep k t h1,ip.keep k r h2⟩
end
theorem ip.paired {H:Hp}:∀(ts:gU){vs:List V},ip K H ts vs->Paired (λv t=>gG K H t v) vs ts.kn
 | .nil,vs,h=>by unfold ip at h;subst h;exact .nil
 | .cons t r,vs,h=>by
  unfold ip at h;obtain⟨v,Mc,rfl,h1,h2⟩:=h;exact .cons h1 (ip.paired r h2)
theorem FT:∀ts:gU,rows ts=ts.kn.flatMap row
 | .nil=>by unfold rows;rfl
 | .cons t r=>by unfold rows;rw [FT r];rfl
theorem Bw:∀ts:gU,zM ts=(ts.kn.map sz).sum
 | .nil=>by unfold zM;rfl
 | .cons t r=>by unfold zM;rw [Bw r];rfl
def Mo:∀t:Tr,1<=sz t
 | .w _=>by unfold sz;exact aD _
 | .n _ cs=>by unfold sz;omega
theorem xx.paired {aa:List au}:∀(ts:gU){ps:List Str},xx aa ts ps->ts.kn.length=ps.length/\∀(j:Nat) t p,ts.kn[j]?=some t->ps[j]?=some p->Is aa t p
 | .nil,ps,h=>by
  unfold xx at h;subst h;exact⟨rfl,λj t p e=>by simp [gU.kn] at e⟩
 | .cons t r,ps,h=>by
  unfold xx at h;obtain⟨p,EK,rfl,h1,h2⟩:=h;obtain⟨a,b⟩:=xx.paired r h2;refine⟨by show r.kn.length+1=EK.length+1;omega,λj u q e1 e2=>?_⟩;cases j with
  | zero=>cases e1;cases e2;exact h1
  | succ j=>exact b j u q e1 e2
theorem A7:∀(ts:gU)(t:Tr),t∈ts.kn->dp t<=Ks ts
 | .nil,t,h=>by cases h
 | .cons u r,t,h=>by
  unfold Ks;rcases bX.mp h with e | e
  .rw [e];omega
  have:=A7 r t e;omega
end
section
def yc {α β:Type}{F:α->β->Prop}{us:List α}{ts:List β}(p:Paired F us ts)(h:us≠[]):∃EH u kb t,us=EH++[u]/\ts=kb++[t]/\Paired F EH kb/\F u t:=by
 have p2:=Paired.FU p;have hr:us.reverse≠[]:=λz=>h (List.reverse_eq_nil_iff.mp z);generalize e1:us.reverse=CI at p2 hr;generalize e2:ts.reverse=xr at p2;cases p2 with
 | nil=>exact absurd rfl hr
 | @cons u t Jk SI a b =>
  refine⟨Jk.reverse,u,SI.reverse,t,?_,?_,Paired.FU b,a⟩
  .rw [<-List.reverse_reverse us,e1,mz]
  rw [<-List.reverse_reverse ts,e2,mz]
def x_ {us:List V}{u:V}:(us++[u])[(us++[u]).length - 1]?=some u:=by
 rw [bp];simp
end
inductive Dd
 | step (z:Str)
 | make (k:Nat)
def Ui:Dd->List V
 | .step z=>[.str "step",.str z]
 | .make k=>[.str "make",.int (k:Int)]
mutual
def iT:Tr->List Dd
 | .w z=>[.step z]
 | .n k cs=>jv cs++[.make k]
def jv:gU->List Dd
 | .nil=>[]
 | .cons t r=>iT t++jv r
end
def Ct (k:Nat)(cs:gU):iT (.n k cs)=jv cs++[.make k]:=by rw [iT]
theorem tF:∀ts:gU,jv ts=ts.kn.flatMap iT
 | .nil=>by unfold jv;rfl
 | .cons t r=>by unfold jv;rw [tF r];rfl
mutual
theorem oF:∀t:Tr,(iT t).length=sz t
 | .w z=>by unfold iT sz;rfl
 | .n k cs=>by
  unfold iT sz;rw [bp,oE cs,d8];omega
theorem oE:∀ts:gU,(jv ts).length=zM ts
 | .nil=>by unfold jv zM;rfl
 | .cons t r=>by unfold jv zM;rw [bp,oF t,oE r]
end
theorem VS:∀l:List Tr,l.length<=(l.map sz).sum
 | []=>aD _
 | x::r=>by
  have:=Mo x;have:=VS r;rw [cN,kP,dQ];omega
def gU.n5:List Tr->gU
 | []=>.nil
 | t::r=>.cons t (gU.n5 r)
theorem ip.S_ {K:a8}{H:Hp}:∀{vs:List V}{ts:List Tr},Paired (λv t=>gG K H t v) vs ts->ip K H (gU.n5 ts) vs
 | _,_,.nil=>by unfold gU.n5 ip;rfl
 | _,_,.cons h p=>by unfold gU.n5 ip;exact⟨_,_,rfl,h,ip.S_ p⟩
def AR (aa:List au) (k:Nat):Option Str:=aa[k]?.map (·.1)
def ic (aa:List au)(t:Tr)(part:Str):Bool:=match t with
 | .w z=>!decide (part∈hd aa) && decide (z=part)
 | .n k _=>decide (part∈hd aa) && decide (AR aa k=some part)
def kr (aa:List au):List Tr->List Str->Bool
 | [],[]=>true
 | t::ts,p::ps=>ic aa t p && kr aa ts ps
 | _,_=>false
def ib (aa:List au) (k:Nat)(f_:List Tr):Option (List Tr):=match aa[k]? with
 | none=>none
 | some ru=>if (decide (ru.2.length<=f_.length) && kr aa (f_.drop (f_.length - ru.2.length)) ru.2)=true then some (f_.take (f_.length - ru.2.length)++[.n k (gU.n5 (f_.drop (f_.length - ru.2.length)))]) else none
structure Ur (aa:List au)(ds:List Dd)(f_:List Tr):Prop where
 is:∀t∈f_,∃x,Is aa t x
 dd:f_.flatMap iT=ds
def N3 {aa:List au}{t:Tr}{x p:Str}(h:Is aa t x)(f:ic aa t p=true):Is aa t p:=by
 cases t with
 | w z =>
  unfold ic at f;have f2:=fj.mp f;unfold Is at h ⊢;have e:=dw f2.2;exact⟨e.symm,h.2⟩
 | n k cs =>
  unfold ic at f;have f2:=fj.mp f;unfold Is at h ⊢;obtain⟨bC,e1,e2⟩:=h;have e:=dw f2.2;unfold AR at e;rw [e1] at e;have e3:x=p:=by
   have:some x=some p:=e;injection this
  exact⟨bC,by rw [e1,e3],e2⟩
theorem yF {aa:List au}:∀(ts:List Tr) (ps:List Str),(∀t∈ts,∃x,Is aa t x)->kr aa ts ps=true->xx aa (gU.n5 ts) ps
 | [],[],_,_=>by unfold gU.n5 xx;rfl
 | [],_::_,_,f=>by cases f
 | _::_,[],_,f=>by cases f
 | t::ts,p::ps,h,f=>by
  have f2:=fj.mp (show (ic aa t p && kr aa ts ps)=true from f);obtain⟨x,hx⟩:=h t cI;unfold gU.n5 xx;exact⟨p,ps,rfl,N3 hx f2.1,yF ts ps (λu hu=>h u (cV _ hu)) f2.2⟩
def jQ {aa:List au}{k:Nat}{f_ F5:List Tr}(e:ib aa k f_=some F5):∃ru,aa[k]?=some ru/\ru.2.length<=f_.length/\kr aa (f_.drop (f_.length - ru.2.length)) ru.2=true/\F5=f_.take (f_.length - ru.2.length)++[.n k (gU.n5 (f_.drop (f_.length - ru.2.length)))]:=by
 unfold ib at e;cases er:aa[k]? with
 | none=>rw [er] at e;cases e
 | some ru =>
  rw [er] at e;have e:(if (decide (ru.2.length<=f_.length) && kr aa (f_.drop (f_.length - ru.2.length)) ru.2)=true then some (f_.take (f_.length - ru.2.length)++[.n k (gU.n5 (f_.drop (f_.length - ru.2.length)))]) else none)=some F5:=e;by_cases c:(decide (ru.2.length<=f_.length) && kr aa (f_.drop (f_.length - ru.2.length)) ru.2)=true
  .rw [ax c] at e;obtain⟨c1,c2⟩:=fj.mp c;exact⟨ru,rfl,dw c1,c2,(iu e).symm⟩
  rw [aw c] at e;cases e
def Ur.top {aa:List au}{ds:List Dd}{f_:List Tr}(h:Ur aa ds f_){k:Nat}{cs:gU}(ht:Tr.n k cs∈f_):k < aa.length:=by
 obtain⟨x,hx⟩:=h.is _ ht;unfold Is at hx;obtain⟨bC,e,_⟩:=hx;exact(bj.mp e).1
def Ur.nil {aa:List au}:Ur aa [] []:=⟨λ_ h=>(by cases h),rfl⟩
def KU:Dd->List Str
 | .step z=>[z]
 | .make _=>[]
mutual
theorem vT:∀t:Tr,(iT t).flatMap KU=row t
 | .w z=>by unfold iT row;rfl
 | .n k cs=>by
  unfold iT row;rw [pZ,xK cs];simp [KU]
theorem xK:∀ts:gU,(jv ts).flatMap KU=rows ts
 | .nil=>by unfold jv rows;rfl
 | .cons t r=>by unfold jv rows;rw [pZ,vT t,xK r]
end
def Ec (o:Option (List Tr)):Option Tr:=match o with
 | some [.n k cs]=>some (.n k cs)
 | _=>none
inductive De
 | d (x:Dd)
 | si (n:Int)
 | no
 | dn
def YA (m:Nat)(xs:List V):Prop:=(∃z,xs=[.str z]/\z ≠ "done")\/(∃(z:Str) (y:Int),xs=[.str z,.int y]/\z ≠ "step" /\ z ≠ "make")\/∃y,xs=[.str "make",y]/\Ir m y
def E5 (m:Nat)(H:Hp)(a:Addr):De->Prop
 | .d x=>H a=some (.tup (Ui x))
 | .si n=>H a=some (.tup [.str "step",.int n])
 | .no=>∃xs,H a=some (.tup xs)/\YA m xs
 | .dn=>H a=some (.tup [.str "done"])
def E5.keep {m:Nat}{H H':Hp}{a:Addr}(k:∀xs,H a=some (.tup xs)->H' a=some (.tup xs)):∀{d:De},E5 m H a d->E5 m H' a d
 | .d x,h=>k _ h
 | .si n,h=>k _ h
 | .no,⟨xs,h,b⟩=>⟨xs,k _ h,b⟩
 | .dn,h=>k _ h
def E5.same {m:Nat}{H H':Hp}{a:Addr}(s:aB H H'){d:De}(h:E5 m H a d):E5 m H' a d:=h.keep λ_ z=>s _ _ z
abbrev Bo (m:Nat)(H:Hp)(as:List Addr)(es:List De):Prop:=Paired (λa d=>E5 m H a d) as es
theorem Bo.same {m:Nat}{H H':Hp}{as:List Addr}{es:List De}(h:Bo m H as es)(s:aB H H'):Bo m H' as es:=Paired.eI h λ_ _ z=>z.same s
def IC (aa:List au):De->Prop
 | .d (.make k)=>k < aa.length
 | _=>True
def hz (aa:List au):Str:=(hd aa).headD ""
def mU (aa:List au)(ts:List Tr):De->Option (List Tr)
 | .d (.step z)=>if z∈hd aa then none else some (ts++[.w z])
 | .d (.make k)=>ib aa k ts
 | _=>none
def fO (f:List Tr->De->Option (List Tr)):List De->List Tr->Option (List Tr)
 | [],p=>some p
 | d::r,p=>(f p d).bind (fO f r)
theorem jl (f:List Tr->De->Option (List Tr)):∀(ds es:List De)(p:List Tr),fO f (ds++es) p=(fO f ds p).bind (fO f es)
 | [],es,p=>rfl
 | d::r,es,p=>by
  show (f p d).bind (fO f (r++es))=((f p d).bind (fO f r)).bind (fO f es);cases f p d with
  | none=>rfl
  | some q=>exact jl f r es q
def CU {f:List Tr->De->Option (List Tr)}{ds:List De}{i:Nat}{d:De}{p ts:List Tr}(e:ds[i]?=some d)(h:fO f (ds.take i) p=some ts):fO f (ds.take (i+1)) p=f ts d:=by
 rw [cP,e];show fO f (ds.take i++[d]) p=_;rw [jl,h];show (f ts d).bind (fO f [])=_;cases f ts d with
 | none=>rfl
 | some q=>rfl
def CV {f:List Tr->De->Option (List Tr)}{ds:List De}{i:Nat}{d:De}{p ts:List Tr}(e:ds[i]?=some d)(h:fO f (ds.take i) p=some ts)(n:f ts d=none):fO f ds p=none:=by
 have e1:ds=ds.take i++(d::ds.drop (i+1)):=by
  have li:=(bj.mp e).1;have e2:ds.drop i=d::ds.drop (i+1):=by
   rw [List.drop_eq_getElem_cons li]
   congr 1
   exact(bj.mp e).2
  rw [<-e2,vJ]
 rw [e1,jl,h];show (f ts d).bind _=none;rw [n];rfl
def DY {aa:List au}{h p:Str}(hh:h∈hd aa):ic aa (.w h) p=false:=by
 show (!decide (p∈hd aa) && decide (h=p))=false;by_cases c:p∈hd aa
 .rw [bM c];rfl
 rw [cU c,cU (λ(e:h=p)=>c (e ▸ hh))];rfl
theorem yE {aa:List au}:∀{ts:List Tr}{ps:List Str}{t:Tr},kr aa ts ps=true->t∈ts->∃p∈ps,ic aa t p=true
 | [],_,_,_,h=>by cases h
 | _::_,[],_,f,_=>by cases f
 | a::ts,b::ps,t,f,h=>by
  have f2:=fj.mp (show (ic aa a b && kr aa ts ps)=true from f);rcases bX.mp h with e | e
  .exact⟨b,cI,e ▸ f2.1⟩
  obtain⟨p,hp,q⟩:=yE f2.2 e;exact⟨p,cV _ hp,q⟩
def xo (aa:List au)(ts:List Tr):Prop:=∀t∈ts,(∃x,Is aa t x)\/∃h∈hd aa,t=.w h
def xo.nil {aa:List au}:xo aa []:=λ_ h=>by cases h
def xo.make {aa:List au}{ts kb:List Tr}{k:Nat}(h:xo aa ts)(e:ib aa k ts=some kb):xo aa kb:=by
 obtain⟨ru,er,le,fl,rfl⟩:=jQ e;intro t ht;rcases cg.mp ht with q | q
 .exact h t (qS q)
 rw [bB.mp q];refine .inl ⟨ru.1,?_⟩;unfold Is;refine⟨ru.2,er,yF _ _ (λt ht=>?_) fl⟩;rcases h t (List.mem_of_mem_drop ht) with w | ⟨x,hx,rfl⟩
 .exact w
 obtain⟨p,_,fp⟩:=yE fl ht;rw [DY hx] at fp;cases fp
def xo.push {aa:List au}{ts:List Tr}(h:xo aa ts)(z:Str):xo aa (ts++[.w z]):=λt ht=>by
 rcases cg.mp ht with q | q
 .exact h t q
 rw [bB.mp q];by_cases c:z∈hd aa
 .exact .inr ⟨z,c,rfl⟩
 exact .inl ⟨z,by unfold Is;exact⟨rfl,c⟩⟩
theorem xo.mU {aa:List au}{ts kb:List Tr}{de:De}(h:xo aa ts)(e:gR.mU aa ts de=some kb):xo aa kb:=by
 cases de with
 | d y =>
  cases y with
  | step z =>
   have e:(if z∈hd aa then none else some (ts++[Tr.w z]))=some kb:=e;by_cases c:z∈hd aa
   .rw [ax c] at e;cases e
   rw [aw c] at e;cases e;exact h.push z
  | make k=>exact h.make e
 | si n=>cases e
 | no=>cases e
 | dn=>cases e
def xo.top {aa:List au}{ts:List Tr}(h:xo aa ts){k:Nat}{cs:gU}(ht:Tr.n k cs∈ts):k < aa.length:=by
 rcases h _ ht with ⟨x,hx⟩ | ⟨x,_,e⟩
 .unfold Is at hx;obtain⟨bC,e,_⟩:=hx;exact(bj.mp e).1
 cases e
theorem B2 {aa:List au}{f:List Tr->De->Option (List Tr)}(hf:∀{ts kb:List Tr}{de:De},xo aa ts->f ts de=some kb->xo aa kb):∀(ds:List De){ts kb:List Tr},xo aa ts->fO f ds ts=some kb->xo aa kb
 | [],ts,kb,h,e=>by cases e;exact h
 | d::r,ts,kb,h,e=>by
  have e:(f ts d).bind (fO f r)=some kb:=e;cases e1:f ts d with
  | none=>rw [e1] at e;cases e
  | some q=>rw [e1] at e;exact B2 hf r (hf h e1) e
def resT (aa:List au)(es:List De):Option Tr:=match es.getLast? with
 | some .dn=>Ec (fO (mU aa) es.dropLast [])
 | _=>none
abbrev wa:Stmt:=top 8
abbrev wt:Stmt:=top 9
abbrev wo:Stmt:=top 10
abbrev wq:Stmt:=top 11
abbrev sf:Stmt:=top 12
abbrev xn (K:a8)(H:Hp)(us:List V)(ts:List Tr):Prop:=Paired (λv t=>gG K H t v) us ts
theorem xn.keep {K:a8}{H H':Hp}{us:List V}{ts:List Tr}(k:∀a xs,aR K H a xs->aR K H' a xs)(h:xn K H us ts):xn K H' us ts:=Paired.eI h λ_ t z=>gG.keep k t z
def jW (H:Hp)(d:Addr)(aa:List au):Prop:=∃kE,H d=some (.dK kE)/\∀z,(bf kE (Sum.inr z)).isSome=decide (z∈hd aa)
def jW.same {H H':Hp}{d:Addr}{aa:List au}(h:jW H d aa)(s:aB H H'):jW H' d aa:=let ⟨kE,a,b⟩:=h;⟨kE,s _ _ a,b⟩
theorem jW.upd {H:Hp}{d P:Addr}{aa:List au}{xs:List V}{o:HO}(h:jW H d aa)(e:H P=some (.lst xs)):jW (upd H P o) d aa:=let ⟨kE,a,b⟩:=h;⟨kE,by rw [ai (λz=>by rw [z,e] at a;cases a)];exact a,b⟩
section
def BQ (K:a8):Sp:=λvs H Q _=>∃(R d:Addr)(rs:List Addr)(aa:List au)(v:V)(t:Tr)(part:Str),vs=[.ref R,.ref d,v,.str part]/\aG K H R (rs.map V.ref)/\bI K H rs aa/\jW H d aa/\gG K H t v/\(∀k cs,t=.n k cs->k < aa.length)/\Q (.bl (ic aa t part)) H
def Ju:aI ["rules","heads","child","part"] ["rules","heads","child","part"] (ay sf):=iS rfl rfl rfl rfl (by decide +kernel)
def Gy (F:ix K "is_child" "is_child" sf f fd)(T:Txt mg):bQ P w K mg base fX 1 f fd ["rules","heads","child","part"] (BQ K):=by
 refine F.ok Ju (λvs H Q E h=>?_) (λeJ A outer s H vs Q E hr h=>?_)
 .obtain⟨R,d,rs,aa,v,t,part,rfl,_⟩:=h;rfl
 obtain⟨R,d,rs,aa,v,t,part,rfl,hR,cS,⟨kE,uT,hd2⟩,ht,hk,q⟩:=h;have hu:=fV hr;have Tp:=Nat.lt_of_succ_lt hu;refine⟨_,aj (bT (dG (jb hu (pv 3) (pv 1)))
   (ak (aQ (jM (F_ (aF cJ rfl T.ER j_ (ab (pv 2) (ab (gh (v:=.ty "str") rfl T.str jw rfl) ah))))
    (jL (ff iN (aP bq (aP bS (pv 0) (aP bq (pv 2) ar (λ_ _=>rfl)) (λ_ _=>rfl)) ar (λ_ _=>rfl)) (pv 3) (bV _)))))) aS)
  (ak (aQ (ff (Gi Tp) (pv 2) (pv 3) (bV _)))),?_⟩
 nofun
 refine⟨_,rfl,_,rfl,d,_,rfl,bW.k (k:=Sum.inr part) uT,_,rfl,?_⟩;rw [hd2 part];refine cD (λc=>?_) (λc=>?_)
 .cases t with
  | w z =>
   unfold gG at ht;subst ht;have e:ic aa (.w z) part=false:=by
    unfold ic;rw [c];rfl
   rw [e] at q;refine⟨_,rfl,.str z,"str","str",true,rfl,.str z,dX,true,rfl,false,rfl,?_⟩;refine dq ?_;exact q
  | n k cs =>
   unfold gG at ht;obtain⟨a,p,us,rfl,ha,hp,_⟩:=ht;have lk:=hk k cs rfl;have er:aa[k]?=some aa[k]:=b9 lk;obtain⟨r,err,p2,v1,v2⟩:=Paired.at_ cS k _ er;have Bf:lQ (rs.map V.ref) (k:Int)=some (.ref r):=b_ (by rw [bo,err];rfl);have e:ic aa (.n k cs) part=decide (V.str aa[k].1=V.str part):=by
    have eh:AR aa k=some aa[k].1:=by unfold AR;rw [er];rfl
    show (decide (part∈hd aa) && decide (AR aa k=some part))=_;rw [c,eh];rw [j4];by_cases h:aa[k].1=part
    .rw [bM (congrArg some h),bM (congrArg V.str h)]
    rw [cU (λz=>h (iu z)),cU (λz=>h (by injection z))]
   rw [e] at q;refine⟨_,rfl,.ref a,"tuple","str",false,rfl,.tup ha,wR,false,rfl,true,rfl,?_⟩;refine g8 ?_;exact⟨_,rfl,_,rfl,a,_,_,_,rfl,rfl,ha,rfl,R,_,_,_,rfl,rfl,hR,Bf,r,_,_,_,rfl,rfl,v1,rfl,_,rfl,rfl,q⟩
 have c':decide (part∈hd aa)=false:=by simpa using c
 cases t with
 | w z =>
  unfold gG at ht;subst ht;have e:ic aa (.w z) part=decide (V.str z=V.str part):=by
   unfold ic;rw [c'];show (true && decide (z=part))=_;rw [j4];by_cases h:z=part
   .rw [bM h,bM (congrArg V.str h)]
   rw [cU h,cU (λy=>h (by injection y))]
  rw [e] at q;exact⟨_,rfl,_,rfl,part,rfl,.inl ⟨z,rfl,q⟩⟩
 | n k cs =>
  unfold gG at ht;obtain⟨a,p,us,rfl,ha,hp,_⟩:=ht;have e:ic aa (.n k cs) part=false:=by
   unfold ic;rw [c'];rfl
  rw [e] at q;exact⟨_,rfl,_,rfl,part,rfl,.inr ⟨a,_,rfl,ha,q⟩⟩
def xR (K:a8):Sp:=λvs H Q _=>∃(d Pl:Addr)(aa:List au)(us:List V)(y:V),vs=[.ref d,.ref Pl,y]/\jW H d aa/\H Pl=some (.lst us)/\us.length<=100000/\((∃z,y=.str z/\z∉hd aa/\Q (.bl true) (upd H Pl (.lst (us++[.str z]))))\/(∃z,y=.str z/\z∈hd aa/\Q (.bl false) H)\/∃n,y=.int n/\Q (.bl false) H)
def Fv:aI ["heads","pile","word"] ["heads","pile","word"] (ay wo):=iS rfl rfl rfl rfl (by decide +kernel)
def Dm (F:ix K "do_step" "do_step" wo f fd)(T:Txt mg):bQ P w K mg base fX 1 f fd ["heads","pile","word"] (xR K):=by
 refine F.ok Fv (λvs H Q E h=>?_) (λeJ A outer s H vs Q E hr h=>?_)
 .obtain⟨d,Pl,aa,us,z,rfl,_⟩:=h;rfl
 obtain⟨d,Pl,aa,us,y,rfl,⟨kE,uT,hd2⟩,hP,hl,h⟩:=h;have hu:=fV hr;refine⟨_,aj (bT (PW.pt (kY (iL (dF (aF cJ rfl T.ER j_ (ab (pv 2) (ab (gh (v:=.ty "str") rfl T.str jw rfl) ah)))))
   (jJ (dG (jb hu (pv 2) (pv 0)))))) (ak (aQ dU)) aS)
  (aj (cA (gQ fZ gJ gK bL (pv 1) (ab (pv 2) ah)))
  (ak (aQ dU))),?_⟩
 nofun
 rcases h with ⟨z,rfl,hz,q⟩ | ⟨z,rfl,hz,q⟩ | ⟨n,rfl,q⟩
 .refine⟨_,rfl,.str z,"str","str",true,rfl,.str z,dX,true,rfl,?_⟩;refine dq ?_;refine⟨_,rfl,_,rfl,d,_,rfl,bW.k (k:=Sum.inr z) uT,_,rfl,?_⟩;rw [hd2 z,cU hz];refine dq ?_;exact⟨_,rfl,.inl ⟨rfl,_,aG.of hP⟩,_,rfl,Pl,_,_,rfl,rfl,hP,bE (by omega),q⟩
 .refine⟨_,rfl,.str z,"str","str",true,rfl,.str z,dX,true,rfl,?_⟩;refine dq ?_;refine⟨_,rfl,_,rfl,d,_,rfl,bW.k (k:=Sum.inr z) uT,_,rfl,?_⟩;rw [hd2 z,bM hz];refine g8 ?_;exact q
 refine⟨_,rfl,.int n,"int","str",false,rfl,.int n,kit_is,false,rfl,?_⟩;refine g8 ?_;exact q
theorem Cn {aa:List au}:∀{ts:List Tr}{ps:List Str}{i:Nat}{t:Tr}{p:Str},kr aa ts ps=true->ts[i]?=some t->ps[i]?=some p->ic aa t p=true
 | [],[],_,_,_,_,e,_=>by cases e
 | [],_::_,_,_,_,f,_,_=>by cases f
 | _::_,[],_,_,_,f,_,_=>by cases f
 | a::ts,b::ps,0,t,p,f,e1,e2=>by
  have f2:=fj.mp (show (ic aa a b && kr aa ts ps)=true from f);cases e1;cases e2;exact f2.1
 | a::ts,b::ps,i+1,t,p,f,e1,e2=>by
  have f2:=fj.mp (show (ic aa a b && kr aa ts ps)=true from f);exact Cn f2.2 e1 e2
theorem w5 {aa:List au}:∀{ts:List Tr}{ps:List Str},ts.length=ps.length->(∀(i:Nat) t p,ts[i]?=some t->ps[i]?=some p->ic aa t p=true)->kr aa ts ps=true
 | [],[],_,_=>rfl
 | [],_::_,e,_=>by cases e
 | _::_,[],e,_=>by cases e
 | a::ts,b::ps,e,h=>by
  show (ic aa a b && kr aa ts ps)=true;rw [h 0 a b rfl rfl,w5 (Nat.succ.inj e) λi t p e1 e2=>h (i+1) t p e1 e2];rfl
end
theorem qd {α β:Type}{F:α->β->Prop}:∀{xs:List α}{ys:List β},Paired F xs ys->∀n,Paired F (xs.take n) (ys.take n)
 | _,_,_,0=>by rw [oS,oS];exact .nil
 | _,_,.nil,_+1=>.nil
 | _,_,.cons a b,n+1=>.cons a (qd b n)
theorem qf {α β:Type}{F:α->β->Prop}:∀{xs:List α}{ys:List β},Paired F xs ys->∀n,Paired F (xs.drop n) (ys.drop n)
 | _,_,h,0=>h
 | _,_,.nil,_+1=>.nil
 | _,_,.cons a b,n+1=>qf b n
def CN {α:Type}{us:List α}{n:Nat}(h:n < us.length):us.take (n+1)=us.take n++[us[n]]:=by
 rw [cP,b9 h];rfl
section
structure Yr (K:a8)(H:Hp)(R d Pl:Addr)(rs:List Addr)(aa:List au)(us:List V)(ts:List Tr):Prop where
 hR:H R=some (.lst (rs.map V.ref))
 cS:bI K H rs aa
 uT:jW H d aa
 hP:H Pl=some (.lst us)
 pl:xn K H us ts
 A1:us.length<=100000
 nR:R≠Pl
 sh:∀ru∈aa,ru.2.length<=8
 sr:aa.length<=1000
 top:∀j cs,Tr.n j cs∈ts->j < aa.length
def xS (K:a8):Sp:=λvs H Q _=>∃(R d Pl:Addr)(rs:List Addr)(aa:List au)(us:List V)(ts:List Tr)(y:V),vs=[.ref R,.ref d,.ref Pl,y]/\Yr K H R d Pl rs aa us ts/\((Ir aa.length y/\Q (.bl false) H)\/∃k:Nat,y=.int (k:Int)/\k < aa.length /\
 (∀H',cX Pl H H'->ib aa k ts=none->Q (.bl false) H')/\(∀H' EH kb,cX Pl H H'->ib aa k ts=some kb->H' Pl=some (.lst EH)->xn K H' EH kb->EH.length<=us.length+1->Q (.bl true) H'))
def r9:aI ["rules","heads","pile","number","children","part"] ["rules","heads","pile","number"] (ay wq):=iS rfl rfl rfl rfl (by decide +kernel)
def Dn (F:ix K "do_make" "do_make" wq f fd)(T:Txt mg)(GB:aE P w K mg base 1 "is_number_below" ["number","many"] BR)(GC:aE P w K mg base 1 "is_child" ["rules","heads","child","part"] (BQ K)):bQ P w K mg base fX 2 f fd ["rules","heads","pile","number"] (xS K):=by
 refine F.ok r9 (λvs H Q E h=>?_) (λeJ A outer s H vs Q E hr h=>?_)
 .obtain⟨R,d,Pl,rs,aa,us,ts,k,rfl,_⟩:=h;rfl
 obtain⟨R,d,Pl,rs,aa,us,ts,y,rfl,M,h⟩:=h;refine⟨_,aj (bT (iL (dF (bc GB hr rfl (ab (pv 3) (ab (aF aK rfl T.len dI (ab (pv 0) ah)) ah))))) (ak (aQ dU)) aS)
  (aj (aC (i:=4) r9.nd rfl (bA rfl) (bz ah))
  (aj (bJ b8 rfl (fA (MT (aP bq (aP bS (pv 0) (pv 3) (λ_ _=>rfl)) ar (λ_ _=>rfl)))) (ao (i:=5) r9.nd rfl (bA rfl))
   (aj (bT (PW.pt (kY (iL (iK (pv 2) (λ_=>rfl))) (jJ (iL (dF (bc GC hr rfl (ab (pv 0) (ab (pv 1) (ab (aP bS (pv 2) (lZ i_ ar) (λ_ _=>rfl)) (ab (pv 5) ah)))))))))) (ak (aQ dU)) aS)
   (ak (cA (gQ fZ gJ gK bL (pv 4) (ab (Ge fZ PySem.F.slot_list_pop PySem.F.type_list_pop GY (pv 2)) ah))))))
  (aj (cA (gQ fZ gJ gK bL (pv 2) (ab (bR (ab (pv 3) (ab (aV eX rfl T.tup qa (ab (JA (pv 4)) ah)) ah))) ah)))
  (ak (aQ dU))))),?_⟩
 nofun
 have ll:=a_ M.cS;rcases h with ⟨nn,q⟩ | ⟨k,rfl,lk,q0,q1⟩
 .refine⟨_,rfl,_,rfl,R,_,rfl,.inl (aG.of M.hR),y,rs.length,(by show [y,V.int ((rs.map V.ref).length:Int)]=_;rw [av]),.inr ⟨by rw [ll];exact nn,false,rfl,?_⟩⟩;refine g8 ?_;exact q
 have lp:=a_ M.pl;have fw:=M.A1;have er:aa[k]?=some aa[k]:=b9 lk;generalize iR:aa[k]=ru at er;have h8:=M.sh ru (bZ er);obtain⟨r,err,p,v1,v2⟩:=Paired.at_ M.cS k ru er;have Bf:lQ (rs.map V.ref) (k:Int)=some (.ref r):=b_ (by rw [bo,err];rfl);refine⟨_,rfl,_,rfl,R,_,rfl,.inl (aG.of M.hR),_,(rs.map V.ref).length,rfl,.inl ⟨k,rfl,by rw [av];omega,true,rfl,?_⟩⟩;refine dq ?_;refine⟨rJ,λC hC=>?_⟩;have s1:=af hC (.lst []);have Zm:C≠Pl:=λz=>by rw [z,M.hP] at hC;cases hC
 have eC1:upd H C (.lst []) C=some (.lst []):=ae;generalize upd H C (.lst [])=H1 at s1 eC1;refine⟨_,rfl,_,rfl,R,_,_,_,rfl,rfl,aG.of (s1 _ _ M.hR),Bf,r,_,_,_,rfl,rfl,s1.tup v1,rfl,p,_,rfl,s1.tup v2,λp2 oK=>?_⟩;have s2:=s1.trans (af oK (.tup (ru.2.map V.str).reverse));have LI:=af oK (.tup (ru.2.map V.str).reverse) _ _ eC1;have LA:aR K (upd H1 p2 (.tup (ru.2.map V.str).reverse)) p2 (ru.2.map V.str).reverse:=aR.of ae;generalize upd H1 p2 (.tup (ru.2.map V.str).reverse)=H2 at s2 LI LA;rw [<-List.map_reverse] at LA
 let Kq:Hp->Prop:=λH5=>cX Pl H H5/\aR K H5 p2 (ru.2.reverse.map V.str)
 have Nf:∀{H5:Hp},Kq H5->∀a xs,aR K H a xs->aR K H5 a xs:=λkq a xs z=>by
  rcases z with (z | ⟨u,z⟩) | z
  .exact .inl (.inl (kq.1 _ _ (λy=>by rw [y,M.hP] at z;cases z) z))
  .exact .inl (.inr ⟨u,kq.1 _ _ (λy=>by rw [y,M.hP] at z;cases z) z⟩)
  exact .inr z
 have Zd:∀kb,ib aa k ts=some kb->ru.2.length<=ts.length/\kr aa (ts.drop (ts.length - ru.2.length)) ru.2=true:=λkb e=>by
  obtain⟨IF,e1,e2,e3,_⟩:=jQ e;rw [er] at e1;cases e1;exact⟨e2,e3⟩
 have none_of:(∀kb,ib aa k ts≠some kb)->ib aa k ts=none:=λh=>by
  cases e:ib aa k ts with
  | none=>rfl
  | some x=>exact absurd e (h x)
 refine⟨p2,rfl,⟨_,LA⟩,?_⟩;refine oy (xs:=ru.2.reverse.map V.str) (λi σ H5=>∃(y5:Option V),σ=[aM R,aM d,aM Pl,some (.int (k:Int)),aM C,y5]/\Kq H5/\i<=us.length/\H5 Pl=some (.lst (us.take (us.length - i)))/\H5 C=some (.lst (us.drop (us.length - i)).reverse) /\
  ∀(j:Nat) t x,j < i->ts[ts.length - 1 - j]?=some t->ru.2.reverse[j]?=some x->ic aa t x=true) ⟨none,rfl,⟨λb o _ hb=>s2 _ _ hb,LA⟩,fh _,by rw [mn,cO];exact s2 _ _ M.hP,by rw [mn,List.drop_length];exact LI,λj _ _ h=>by omega⟩ ?_ ?_ ?_
 .rintro i σ H5 _ ⟨y5,rfl,kq,_⟩;exact kq.2
 .rintro i x σ H5 ex ⟨y5,rfl,kq,li,eP,eC,fa⟩
  ac_nf0
  rw [bo] at ex;obtain⟨x,T4,rfl⟩:=cf.mp ex;have lx:=(bj.mp T4).1;rw [qP] at lx;refine goN ?_
  ac_rfl
  refine⟨_,rfl,!(us.take (us.length - i)).isEmpty,.inl ⟨_,aG.of eP,rfl⟩,?_⟩;refine cD (λc=>?_) (λc=>?_)
  .have e0:us.take (us.length - i)=[]:=by
    cases hh:us.take (us.length - i) with
    | nil=>rfl
    | cons a b=>rw [hh] at c;cases c
   have l0:=congrArg List.length e0;rw [dC,iW] at l0;refine q0 H5 kq.1 (none_of λkb e=>?_);have:=(Zd kb e).1;omega
  have ln:us.length - i≠0:=λz=>by rw [z,oS] at c;exact c rfl
  obtain⟨m,hm⟩:∃m,us.length - i=m+1:=⟨us.length - i - 1,by omega⟩;have lm:m < us.length:=by omega
  have et:us.take (us.length - i)=us.take m++[us[m]]:=by rw [hm];exact CN lm
  have em:us[m]?=some us[m]:=b9 lm;have RP:ts[m]?=some (ts[m]'(by omega)):=b9 (by omega);obtain⟨u,eu,tv⟩:=Paired.at_ M.pl m _ RP;rw [em] at eu;have eu:us[m]=u:=iu eu;generalize htm:ts[m]'(by omega)=t0 at RP tv;have UM:=gG.keep (Nf kq) t0 tv;have atl:lQ (us.take m++[u]) (-1)=some u:=Ie _ _;rw [et,eu] at eP;have tp:∀j cs,t0=.n j cs->j < aa.length:=λj cs e=>M.top j cs (e ▸ bZ RP);refine⟨_,rfl,_,rfl,_,rfl,_,rfl,Pl,_,_,_,rfl,rfl,aG.of eP,atl,_,rfl,R,d,rs,aa,u,t0,x,rfl,aG.of (kq.1 _ _ M.nR M.hR),M.cS.keep (Nf kq),?_,UM,tp,?_⟩
  .obtain⟨kE,a1,a2⟩:=M.uT;exact⟨kE,kq.1 _ _ (λz=>by rw [z,M.hP] at a1;cases a1) a1,a2⟩
  refine⟨_,rfl,?_⟩;refine cD (λc2=>?_) (λc2=>?_)
  .have Pb:ic aa t0 x=false:=by simpa using c2
   refine q0 H5 kq.1 (none_of λkb e=>?_);obtain⟨a1,a2⟩:=Zd kb e;have a3:(ts.drop (ts.length - ru.2.length))[ru.2.length - 1 - i]?=some t0:=by
    rw [List.getElem?_drop,<-RP]
    congr 1
    omega
   have a4:ru.2[ru.2.length - 1 - i]?=some x:=by
    rw [vI lx] at T4;exact T4
   rw [Cn a2 a3 a4] at Pb;cases Pb
  have Pb:ic aa t0 x=true:=by
   cases hh:ic aa t0 x with
   | true=>rfl
   | false=>rw [hh] at c2;exact absurd rfl c2
  have nPC:Pl≠C:=Zm.symm;refine⟨_,rfl,.inl ⟨rfl,_,aG.of eC⟩,_,rfl,.inl ⟨rfl,_,aG.of eP⟩,Pl,_,u,rfl,rfl,eP,x_,?_⟩;rw [o_];have R_:upd H5 Pl (.lst (us.take m)) C=some (.lst (us.drop (us.length - i)).reverse):=by rw [ai Zm];exact eC
  refine⟨C,_,_,rfl,rfl,R_,bE (by rw [qP,mv];omega),?_⟩;have em1:us.length - (i+1)=m:=by omega
  have ed:(us.drop m).reverse=(us.drop (us.length - i)).reverse++[u]:=by
   rw [hm,List.drop_eq_getElem_cons lm,mz,eu]
  refine⟨_,rfl,⟨λb o nb hb=>?_,?_⟩,by omega,?_,?_,λj t x2 hj e1 e2=>?_⟩
  .rw [ai (λz=>by rw [z,hC] at hb;cases hb),ai nb];exact kq.1 b o nb hb
  .exact aW R_ (aW eP kq.2)
  .rw [em1,ai nPC,ae]
  .rw [em1,ae,ed]
  by_cases cj:j < i
  .exact fa j t x2 cj e1 e2
  have:j=i:=by omega
  subst this;rw [T4] at e2;cases e2;have e3:ts[ts.length - 1 - j]?=some t0:=by rw [<-RP];congr 1;omega
  rw [e3] at e1;cases e1;exact Pb
 rintro σ H5 ⟨y5,rfl,kq,li,eP,eC,fa⟩;rw [av,qP] at li eP eC fa;have fl:kr aa (ts.drop (ts.length - ru.2.length)) ru.2=true:=w5 (by rw [mv];omega) λi t x e1 e2=>by
  have l2:=(bj.mp e2).1;rw [List.getElem?_drop] at e1;refine fa (ru.2.length - 1 - i) t x (by omega) ?_ ?_
  .rw [<-e1];congr 1;omega
  rw [vI (by omega),<-e2];congr 1;omega
 have mk:ib aa k ts=some (ts.take (ts.length - ru.2.length)++[.n k (gU.n5 (ts.drop (ts.length - ru.2.length)))]):=by
  unfold ib;rw [er];show (if (decide (ru.2.length<=ts.length) && kr aa (ts.drop (ts.length - ru.2.length)) ru.2)=true then _ else none)=_;rw [ax (by rw [fl,bM (by omega)];rfl)]
 refine⟨_,rfl,.inl ⟨rfl,_,aG.of eP⟩,_,rfl,_,rfl,C,_,rfl,aG.of eC,λL2 DQ=>?_⟩;rw [List.reverse_reverse];have s6:=af DQ (.lst (us.drop (us.length - ru.2.length)));have HU:upd H5 L2 (.lst (us.drop (us.length - ru.2.length))) L2=some (.lst (us.drop (us.length - ru.2.length))):=ae;generalize upd H5 L2 (.lst (us.drop (us.length - ru.2.length)))=H6 at s6 HU;refine⟨L2,_,rfl,.inl ⟨aG.of HU,λt2 jy=>⟨oJ,λnd Ny=>?_⟩⟩⟩;have s8:=s6.trans ((af jy (.tup (us.drop (us.length - ru.2.length)))).trans (af Ny (.tup [.int (k:Int),.ref t2])));have vt:aR K (upd (upd H6 t2 (.tup (us.drop (us.length - ru.2.length)))) nd (.tup [.int (k:Int),.ref t2])) t2 (us.drop (us.length - ru.2.length)):=(af Ny _).tup (aR.of ae);have vn:aR K (upd (upd H6 t2 (.tup (us.drop (us.length - ru.2.length)))) nd (.tup [.int (k:Int),.ref t2])) nd [.int (k:Int),.ref t2]:=aR.of ae;generalize upd (upd H6 t2 (.tup (us.drop (us.length - ru.2.length)))) nd (.tup [.int (k:Int),.ref t2])=H8 at s8 vt vn;have Uc:=s8 _ _ eP;refine⟨Pl,_,_,rfl,rfl,Uc,bE (by rw [dC];omega),?_⟩;have kt:∀a xs,aR K H a xs->aR K (upd H8 Pl (.lst (us.take (us.length - ru.2.length)++[.ref nd]))) a xs:=λa xs z=>aW Uc (s8.tup (Nf kq a xs z));have MR:=xn.keep kt M.pl;refine q1 _ _ _ (λb o nb hb=>?_) mk ae ?_ (by rw [bp,dC,d8];omega)
 .rw [ai nb];exact s8 _ _ (kq.1 b o nb hb)
 rw [<-lp];refine cu (qd MR _) (.cons ?_ .nil);unfold gG;exact⟨nd,t2,us.drop (us.length - ru.2.length),rfl,aW Uc vn,aW Uc vt,ip.S_ (qf MR _)⟩
end
def N6 {z y:Str}(h:z≠y):uX (.str z) (.str y)=false:=by
 simp [uX,h]
def E5.last {m:Nat}{H:Hp}{a:Addr}:∀{de:De},E5 m H a de->∃xs,H a=some (.tup xs)/\xs.all gY=true/\((de=.dn/\xs=[.str "done"])\/(de≠.dn/\D_ xs [.str "done"]=false))
 | .d (.step z),h=>⟨_,h,rfl,.inr ⟨(λe=>by cases e),by show (_ && false)=false;rw [oR]⟩⟩
 | .d (.make k),h=>⟨_,h,rfl,.inr ⟨(λe=>by cases e),by show (_ && false)=false;rw [oR]⟩⟩
 | .si n,h=>⟨_,h,rfl,.inr ⟨(λe=>by cases e),by show (_ && false)=false;rw [oR]⟩⟩
 | .no,⟨xs,h,b⟩=>by
  refine⟨xs,h,?_⟩;rcases b with ⟨z,rfl,hz⟩ | ⟨z,y,rfl,_,_⟩ | ⟨y,rfl,hn⟩
  .refine⟨rfl,.inr ⟨(λe=>by cases e),?_⟩⟩;show (uX (.str z) (.str "done") && true)=false;rw [Bool.and_true];exact N6 hz
  .exact⟨rfl,.inr ⟨(λe=>by cases e),by show (_ && false)=false;rw [oR]⟩⟩
  refine⟨?_,.inr ⟨(λe=>by cases e),by show (_ && false)=false;rw [oR]⟩⟩;rcases hn with ⟨n,rfl,_⟩ | ⟨t,rfl⟩ | ⟨z,rfl⟩ <;> rfl
 | .dn,h=>⟨_,h,rfl,.inl ⟨rfl,rfl⟩⟩
section
def xT (K:a8):Sp:=λvs H Q _=>∃(R d Pl a:Addr)(rs:List Addr)(aa:List au)(us:List V)(ts:List Tr)(de:De),vs=[.ref R,.ref d,.ref Pl,.ref a]/\Yr K H R d Pl rs aa us ts/\E5 aa.length H a de/\IC aa de /\
 (∀H',cX Pl H H'->mU aa ts de=none->Q (.bl false) H')/\(∀H' EH kb,cX Pl H H'->mU aa ts de=some kb->H' Pl=some (.lst EH)->xn K H' EH kb->EH.length<=us.length+1->Q (.bl true) H')
def Fw:aI ["rules","heads","pile","deed"] ["rules","heads","pile","deed"] (ay wt):=iS rfl rfl rfl rfl (by decide +kernel)
def Dp (F:ix K "do_deed" "do_deed" wt f fd)(T:Txt mg)(GS:aE P w K mg base 2 "do_step" ["heads","pile","word"] (xR K))(GM:aE P w K mg base 2 "do_make" ["rules","heads","pile","number"] (xS K)):bQ P w K mg base fX 3 f fd ["rules","heads","pile","deed"] (xT K):=by
 refine F.ok Fw (λvs H Q E h=>?_) (λeJ A outer s H vs Q E hr h=>?_)
 .obtain⟨R,d,Pl,a,rs,aa,us,ts,de,rfl,_⟩:=h;rfl
 obtain⟨R,d,Pl,a,rs,aa,us,ts,de,rfl,M,hv,ok,q0,q1⟩:=h;have fw:=M.A1;have same:cX Pl H H:=λ_ _ _ h=>h;refine⟨_,aj (bT (bw Ca (aF aK rfl T.len dI (ab (pv 3) ah)) ar (bV _)) (ak (aQ dU)) aS)
  (aj (bT (bw iN (aP bq (pv 3) ar (λ_ _=>rfl)) cC (bV _)) (ak (aQ (bc GS hr rfl (ab (pv 1) (ab (pv 2) (ab (aP bq (pv 3) ar (λ_ _=>rfl)) ah)))))) aS)
  (ak (aQ (jM (ff iN (aP bq (pv 3) ar (λ_ _=>rfl)) cC (bV _)) (jL (bc GM hr rfl (ab (pv 0) (ab (pv 1) (ab (pv 2) (ab (aP bq (pv 3) ar (λ_ _=>rfl)) ah)))))))))),?_⟩
 nofun
 have one:∀{z:Str},H a=some (.tup [.str z])->mU aa ts de=none->∃x,([some (V.ref R),aM d,aM Pl,aM a]:St)[3]?=some (some x)/\True:=λ_ _=>⟨_,rfl,trivial⟩;cases de with
 | d y =>
  cases y with
  | step z =>
   have hv:aR K H a [.str "step",.str z]:=aR.of hv;refine⟨_,rfl,a,_,rfl,.inr hv,rfl,false,rfl,?_⟩;refine dq ?_;refine⟨_,rfl,a,_,_,_,rfl,rfl,hv,rfl,rfl,true,rfl,?_⟩;refine g8 ?_;by_cases c:z∈hd aa
   .refine⟨_,rfl,_,rfl,_,rfl,a,_,_,_,rfl,rfl,hv,rfl,d,Pl,aa,us,.str z,rfl,M.uT,M.hP,fw,.inr (.inl ⟨z,rfl,c,?_⟩)⟩;exact q0 H same (show (if z∈hd aa then none else some (ts++[Tr.w z]))=_ from ax c)
   refine⟨_,rfl,_,rfl,_,rfl,a,_,_,_,rfl,rfl,hv,rfl,d,Pl,aa,us,.str z,rfl,M.uT,M.hP,fw,.inl ⟨z,rfl,c,?_⟩⟩;refine q1 _ _ (ts++[.w z]) (λb o nb hb=>by rw [ai nb];exact hb) (show (if z∈hd aa then none else some (ts++[Tr.w z]))=_ from aw c) ae ?_ (by rw [bp];simp);refine cu (xn.keep (λ_ _ z=>aW M.hP z) M.pl) (.cons ?_ .nil);unfold gG;rfl
  | make k =>
   have hv:aR K H a [.str "make",.int (k:Int)]:=aR.of hv;refine⟨_,rfl,a,_,rfl,.inr hv,rfl,false,rfl,?_⟩;refine dq ?_;refine⟨_,rfl,a,_,_,_,rfl,rfl,hv,rfl,rfl,false,rfl,?_⟩;refine dq ?_;refine⟨_,rfl,a,_,_,_,rfl,rfl,hv,rfl,rfl,true,rfl,?_⟩;refine g8 ?_;exact⟨_,rfl,_,rfl,_,rfl,_,rfl,a,_,_,_,rfl,rfl,hv,rfl,R,d,Pl,rs,aa,us,ts,_,rfl,M,.inr ⟨k,rfl,ok,q0,q1⟩⟩
 | si n =>
  have hv:aR K H a [.str "step",.int n]:=aR.of hv;refine⟨_,rfl,a,_,rfl,.inr hv,rfl,false,rfl,?_⟩;refine dq ?_;refine⟨_,rfl,a,_,_,_,rfl,rfl,hv,rfl,rfl,true,rfl,?_⟩;refine g8 ?_;refine⟨_,rfl,_,rfl,_,rfl,a,_,_,_,rfl,rfl,hv,rfl,d,Pl,aa,us,.int n,rfl,M.uT,M.hP,fw,.inr (.inr ⟨n,rfl,?_⟩)⟩;exact q0 H same rfl
 | no =>
  obtain⟨xs,hv,bd⟩:=hv;have hv:aR K H a xs:=aR.of hv;rcases bd with ⟨z,rfl,_⟩ | ⟨z,y,rfl,n1,n2⟩ | ⟨y,rfl,hn⟩
  .refine⟨_,rfl,a,_,rfl,.inr hv,rfl,true,rfl,?_⟩;refine g8 ?_;exact q0 H same rfl
  .refine⟨_,rfl,a,_,rfl,.inr hv,rfl,false,rfl,?_⟩;refine dq ?_;refine⟨_,rfl,a,_,_,_,rfl,rfl,hv,rfl,rfl,false,?_,?_⟩
   .show V.bl (decide (V.str z=V.str "step"))=V.bl false;rw [cU λe=>n1 (by injection e)]
   refine dq ?_;refine⟨_,rfl,a,_,_,_,rfl,rfl,hv,rfl,rfl,false,?_,?_⟩
   .show V.bl (decide (V.str z=V.str "make"))=V.bl false;rw [cU λe=>n2 (by injection e)]
   refine dq ?_;have e:V.bl (decide (V.str z=V.str "make"))=V.bl false:=by rw [cU λe=>n2 (by injection e)]
   first
    | exact q0 H same rfl
    | (rw [e];exact q0 H same rfl)
    | (show Q (V.bl (decide (V.str z=V.str "make"))) H;rw [e];exact q0 H same rfl)
  refine⟨_,rfl,a,_,rfl,.inr hv,rfl,false,rfl,?_⟩;refine dq ?_;refine⟨_,rfl,a,_,_,_,rfl,rfl,hv,rfl,rfl,false,rfl,?_⟩;refine dq ?_;refine⟨_,rfl,a,_,_,_,rfl,rfl,hv,rfl,rfl,true,rfl,?_⟩;refine g8 ?_;exact⟨_,rfl,_,rfl,_,rfl,_,rfl,a,_,_,_,rfl,rfl,hv,rfl,R,d,Pl,rs,aa,us,ts,_,rfl,M,.inl ⟨hn,q0 H same rfl⟩⟩
 | dn =>
  have hv:aR K H a [.str "done"]:=aR.of hv;refine⟨_,rfl,a,_,rfl,.inr hv,rfl,true,rfl,?_⟩;refine g8 ?_;exact q0 H same rfl
def Eo (l:List Addr)(n:Addr):gp ((l++[n]).map V.ref) (some (-1)) none=[V.ref n]:=by
 unfold gp;have h1:HT.fu ((l++[n]).map V.ref).length 0 (some (-1))=l.length:=by
  rw [av,bp,d8];show (if (-1:Int) < 0 then ((-1:Int)+((l.length+1:Nat):Int)).toNat else min (-1:Int).toNat (l.length+1))=l.length;rw [ax (by decide)];omega
 rw [h1,HT.jk,<-List.map_drop,List.drop_append_of_le_length (aD _),List.drop_length,kQ];rw [av,bp,d8,show l.length+1 - l.length=1 by omega];rfl
def u4 (l:List Addr)(n:Addr):gp ((l++[n]).map V.ref) none (some (-1))=l.map V.ref:=by
 unfold gp;have h1:HT.fu ((l++[n]).map V.ref).length ((l++[n]).map V.ref).length (some (-1))=l.length:=by
  rw [av,bp,d8];show (if (-1:Int) < 0 then ((-1:Int)+((l.length+1:Nat):Int)).toNat else min (-1:Int).toNat (l.length+1))=l.length;rw [ax (by decide)];omega
 rw [h1,HT.jk,qZ,mn,<-oP,qc (aD _),cO]
def xN (K:a8):Sp:=λvs H Q _=>∃(R L:Addr)(rs as:List Addr)(aa:List au)(es:List De),vs=[.ref R,.ref L]/\H R=some (.lst (rs.map V.ref))/\bI K H rs aa/\(∀ru∈aa,ru.2.length<=8)/\aa.length<=1000/\aG K H L (as.map V.ref)/\Bo aa.length H as es/\(∀d∈es,IC aa d)/\es.length<=90000 /\
 ∀H',aB H H'->(resT aa es=none->Q .eU H')/\∀t v,resT aa es=some t->gG K H' t v->Q v H'
def nO:aI ["rules","deeds","heads","pile","deed"] ["rules","deeds"] (ay wa):=iS rfl rfl rfl rfl (by decide +kernel)
def Dh (F:ix K "tree_of" "tree_of" wa f fd)(T:Txt mg)(GH:aE P w K mg base 3 "heads_of" ["rules"] (jF K))(GD:aE P w K mg base 3 "do_deed" ["rules","heads","pile","deed"] (xT K)):bQ P w K mg base fX 4 f fd ["rules","deeds"] (xN K):=by
 refine F.ok nO (λvs H Q E h=>?_) (λeJ A outer s H vs Q E hr h=>?_)
 .obtain⟨R,L,rs,as,aa,es,rfl,_⟩:=h;rfl
 obtain⟨R,L,rs,as,aa,es,rfl,hR,cS,h8,br,hL,D0,Uh,dl,q⟩:=h;have QY:=fV hr;refine⟨_,aj (bT (bw (Gh QY) (fI jG (pv 1) (e_ (lZ i_ ar)) g_) (bz (ab (bR (ab cC ah)) ah)) (bV _)) (ak (aQ Ai)) aS)
  (aj (aC (i:=2) nO.nd rfl (bA rfl) (aV (dO rfl) rfl T.A_ fM (ab (ba ["head"] [] rfl (aX (bc GH hr rfl (ab (pv 0) ah))) (a9 rfl rfl) (by decide +kernel) rfl (by decide +kernel)
   (λ_ _ _ _ _=>ao (i:=0) (show (["head"]:List Str).Nodup by decide +kernel) rfl (bA rfl)) (λ_ _ _ _ _=>bO) (λ_ _ _ _ _=>bR (ab (pv 0) (ab dU ah)))) ah)))
  (aj (aC (i:=3) nO.nd rfl (bA rfl) (bz ah))
  (aj (bJ b8 rfl (aX (fI jG (pv 1) g_ (e_ (lZ i_ ar)))) (ao (i:=4) nO.nd rfl (bA rfl))
   (ak (bT (iL (dF (bc GD hr rfl (ab (pv 0) (ab (pv 2) (ab (pv 3) (ab (pv 4) ah))))))) (ak (aQ Ai)) aS)))
  (ak (aQ (so (PW.pt (ja (bw iN (aF aK rfl T.len dI (ab (pv 3) ah)) ar (bV _)) (iz (iL (dF (aF cJ rfl T.ER j_ (ab (aP bS (pv 3) ar (λ_ _=>rfl)) (ab (gh (v:=.ty "str") rfl T.str jw rfl) ah)))))))) (aP bS (pv 3) ar (λ_ _=>rfl)) Ai)))))),?_⟩
 nofun
 refine⟨_,rfl,_,rfl,_,rfl,L,_,rfl,hL,λC1 TV=>?_⟩;have lae:=a_ D0;by_cases ca:as=[]
 .subst ca;have ee:es=[]:=rG.mp lae.symm;subst ee;have s1:=af TV (.lst (gp (([]:List Addr).map V.ref) (some (-1)) none));have e1:upd H C1 (.lst (gp (([]:List Addr).map V.ref) (some (-1)) none)) C1=some (.lst []):=ae;generalize upd H C1 (.lst (gp (([]:List Addr).map V.ref) (some (-1)) none))=H1 at s1 e1;refine⟨xB,λt1 Lp=>⟨xB,λC2 IT=>?_⟩⟩;have k3:=(af Lp (.tup [V.str "done"])).trans (af IT (.lst [V.ref t1]));have et:aR K (upd (upd H1 t1 (.tup [V.str "done"])) C2 (.lst [V.ref t1])) t1 [.str "done"]:=(af IT _).tup (aR.of ae);have LI:upd (upd H1 t1 (.tup [V.str "done"])) C2 (.lst [V.ref t1]) C2=some (.lst [V.ref t1]):=ae;generalize upd (upd H1 t1 (.tup [V.str "done"])) C2 (.lst [V.ref t1])=H3 at k3 et LI;refine⟨C1,C2,_,t1,_,rfl,rfl,aG.of (k3 _ _ e1),aG.of LI,et,rfl,.inl ⟨rfl,true,rfl,?_⟩⟩;refine g8 ?_;exact(q H3 (s1.trans k3)).1 rfl
 obtain⟨Pc,a0,N5,e0,rfl,rfl,DP,SG⟩:=yc D0 ca;rw [Eo];obtain⟨xs0,ZH,fx0,XY⟩:=SG.last;have s1:=af TV (.lst [V.ref a0]);have e1:upd H C1 (.lst [V.ref a0]) C1=some (.lst [V.ref a0]):=ae;generalize upd H C1 (.lst [V.ref a0])=H1 at s1 e1;refine⟨xB,λt1 Lp=>⟨xB,λC2 IT=>?_⟩⟩;have na:a0≠t1:=λz=>by rw [<-z,s1 _ _ ZH] at Lp;cases Lp
 have k3:=(af Lp (.tup [V.str "done"])).trans (af IT (.lst [V.ref t1]));have et:aR K (upd (upd H1 t1 (.tup [V.str "done"])) C2 (.lst [V.ref t1])) t1 [.str "done"]:=(af IT _).tup (aR.of ae);have LI:upd (upd H1 t1 (.tup [V.str "done"])) C2 (.lst [V.ref t1]) C2=some (.lst [V.ref t1]):=ae;generalize upd (upd H1 t1 (.tup [V.str "done"])) C2 (.lst [V.ref t1])=H3 at k3 et LI;have s3:=s1.trans k3;refine⟨C1,C2,_,t1,_,rfl,rfl,aG.of (k3 _ _ e1),aG.of LI,et,rfl,.inr ⟨a0,xs0,rfl,na,aR.of (s3 _ _ ZH),fx0,_,rfl,?_⟩⟩;rcases XY with ⟨rfl,rfl⟩ | ⟨nd,XY⟩
 rotate_left
 .rw [XY];refine g8 ?_;refine(q H3 s3).1 ?_;unfold resT;rw [rC,rF];cases e0 with
  | dn=>exact absurd rfl nd
  | d x=>rfl
  | si n=>rfl
  | no=>rfl
 refine dq ?_;have q2:∀H',aB H H'->(Ec (fO (mU aa) N5 [])=none->Q .eU H')/\∀t v,Ec (fO (mU aa) N5 [])=some t->gG K H' t v->Q v H':=λH' s=>by
  have:=q H' s;unfold resT at this;rw [rC,rF,o_] at this;exact this
 have XR:∀d∈N5,IC aa d:=λd h=>Uh d (iG _ h);have dl0:N5.length<=90000:=by rw [bp] at dl;omega
 have R3:=s3 _ _ hR;have Vg:=cS.same s3;refine⟨_,rfl,R,rs,aa,rfl,aG.of R3,Vg,br,λD1 H4 f4 s4 e4=>?_⟩;have JX:=iD (aa.map (·.1)) [];simp only [iW,av] at JX;refine⟨D1,rfl,⟨_,aG.of e4⟩,λD2 i4=>qk (aG.of e4) (by omega) i4 λtz H5 s5 e5 p5=>?_⟩;have kp:Paired (λt (kv:aL×V)=>aR K H5 t [kV kv.1,kv.2]) tz ((hd aa).map λh=>((Sum.inr h:aL),V.bl true)):=cq p5 λ_ _ z=>z;refine⟨D2,tz,_,rfl,e5,kp,λd tZ=>?_⟩;have Qw:∀z,(bf (c_ ((hd aa).map λh=>((Sum.inr h:aL),V.bl true)) []) (Sum.inr z)).isSome=decide (z∈hd aa):=λz=>by
  rw [ny];by_cases c:z∈hd aa
  .rw [ax c,bM c];rfl
  rw [aw c,cU c];rfl
 generalize c_ ((hd aa).map λh=>((Sum.inr h:aL),V.bl true)) []=kE at Qw;have s6:=(s4.trans s5).trans (af tZ (.dK kE));have LF:upd H5 d (.dK kE) d=some (.dK kE):=ae;generalize upd H5 d (.dK kE)=H6 at s6 LF;have FK:=s3.trans s6;refine⟨rJ,λPl W9=>?_⟩;have k7:=af W9 (.lst []);have XD:upd H6 Pl (.lst []) Pl=some (.lst []):=ae;have fPl:H Pl=none:=FK.free W9;have nRP:R≠Pl:=λz=>by rw [z,fPl] at hR;cases hR
 have Ta:d≠Pl:=λz=>by rw [z,W9] at LF;cases LF
 generalize upd H6 Pl (.lst [])=H7 at k7 XD;have IE:=FK.trans k7;refine⟨_,rfl,_,rfl,_,rfl,L,_,rfl,IE.seq hL,λC3 NT=>?_⟩;rw [u4];have k8:=af NT (.lst (Pc.map V.ref));have Og:upd H7 C3 (.lst (Pc.map V.ref)) C3=some (.lst (Pc.map V.ref)):=ae;have VN:C3≠Pl:=λz=>by rw [z,XD] at NT;cases NT
 generalize upd H7 C3 (.lst (Pc.map V.ref))=H8 at k8 Og;have s08:=IE.trans k8;have XA:=k8 _ _ (k7 _ _ LF);have lds:=a_ DP;refine⟨C3,rfl,⟨_,aG.of Og⟩,?_⟩;refine cQ (xs:=Pc.map V.ref) (λi σ H9=>∃(us:List V)(ts:List Tr)(y4:Option V),σ=[aM R,aM L,aM d,aM Pl,y4]/\aB H H9/\H9 C3=some (.lst (Pc.map V.ref))/\H9 d=some (.dK kE)/\H9 Pl=some (.lst us)/\xn K H9 us ts/\fO (mU aa) (N5.take i) []=some ts/\us.length<=i) ⟨[],[],none,rfl,s08,Og,XA,k8 _ _ XD,.nil,rfl,aD _⟩ ?_ ?_ ?_
 .rintro i σ H9 _ ⟨us,ts,y4,rfl,s9,LH,_⟩;exact aG.of LH
 .rintro i x σ H9 ex ⟨us,ts,y4,rfl,s9,LH,Ob,LG,MR,CW,l9⟩
  ac_nf0
  rw [bo] at ex;obtain⟨a,ea,rfl⟩:=cf.mp ex;have li:=(bj.mp ea).1;obtain⟨de,Ua⟩:∃de,N5[i]?=some de:=⟨N5[i]'(by omega),b9 (by omega)⟩;obtain⟨a',R7,va⟩:=Paired.at_ DP i de Ua;rw [ea] at R7;cases R7;have okd:=XR de (bZ Ua);have okp:=B2 (λh e=>xo.mU h e) _ xo.nil CW;have M9:Yr K H9 R d Pl rs aa us ts:=⟨s9 _ _ hR,cS.same s9,⟨kE,Ob,Qw⟩,LG,MR,by omega,nRP,h8,br,λj cs h=>okp.top h⟩;refine goN ?_
  ac_nf
  have back:∀{HA:Hp},cX Pl H9 HA->aB H HA:=λsT b o hb=>sT b o (λz=>by rw [z,fPl] at hb;cases hb) (s9 b o hb);refine⟨_,rfl,_,rfl,_,rfl,_,rfl,R,d,Pl,a,rs,aa,us,ts,de,rfl,M9,va.same s9,okd,λHA sT e=>⟨false,rfl,?_⟩,λHA EH kb sT e eP' pl' l'=>⟨true,rfl,?_⟩⟩
  .refine g8 ?_;refine(q2 HA (back sT)).1 ?_;rw [CV Ua CW e];rfl
  refine dq ?_;refine⟨EH,kb,_,rfl,back sT,sT _ _ VN LH,sT _ _ Ta Ob,eP',pl',?_,by omega⟩;rw [CU Ua CW,e]
 rintro σ H9 ⟨us,ts,y4,rfl,s9,LH,Ob,LG,MR,CW,l9⟩;rw [av,lds,cO] at CW;have lp:=a_ MR;have hq:=q2 H9 s9;rw [CW] at hq;refine⟨_,rfl,Pl,_,rfl,.inl (aG.of LG),rfl,decide (us.length=1),?_,?_⟩
 .show V.bl (decide (V.int (us.length:Int)=V.int 1))=V.bl (decide (us.length=1));by_cases h:us.length=1
  .rw [bM h,bM (by rw [h];rfl)]
  rw [cU h,cU (λy=>h (by injection y with y2;omega))]
 refine cD (λc=>?_) (λc=>?_)
 .have l1:=dw c
  match us,ts,l1,lp,MR,LG,hq with
  | [u],[t],_,_,.cons tv .nil,LG,hq =>
   have vh:lQ [u] 0=some u:=b_ (j:=0) rfl;cases t with
   | w z =>
    unfold gG at tv;subst tv;refine⟨_,rfl,Pl,_,_,_,rfl,rfl,aG.of LG,vh,.str z,"str","str",true,rfl,.str z,dX,true,rfl,?_⟩;refine dq ?_;exact hq.1 rfl
   | n k cs =>
    have OE:=tv;unfold gG at OE;obtain⟨a,p,vs,rfl,ha,hp,_⟩:=OE;refine⟨_,rfl,Pl,_,_,_,rfl,rfl,aG.of LG,vh,.ref a,"tuple","str",false,rfl,.tup ha,wR,false,rfl,?_⟩;refine g8 ?_;exact⟨_,rfl,Pl,_,_,_,rfl,rfl,aG.of LG,vh,hq.2 _ _ rfl tv⟩
 have n1:us.length≠1:=λh=>c (bM h);refine dq ?_;refine hq.1 ?_
 match ts,lp with
 | [],_=>rfl
 | [t],lp=>exact absurd lp n1
 | a::_::_,_=>cases a <;> rfl
end
end gR
namespace L2
open PySem PySem.Spec PyProof.Rows
end L2
namespace gR
open PySem L2 M11
theorem vS:∀(ts:gU)(t:Tr),t∈ts.kn->sz t<=zM ts
 | .nil,t,h=>by cases h
 | .cons u r,t,h=>by
  unfold zM;rcases bX.mp h with e | e
  .rw [e];omega
  have:=vS r t e;omega
abbrev wy:Stmt:=top 57
section
def nJ (K:a8) (n:Nat):Sp:=λvs H Q _=>∃(v:V)(t:Tr),vs=[v]/\gG K H t v/\dp t < n/\sz t<=100000/\∀(D:Addr)(as:List Addr)(H':Hp),H D=none->aB H H'->H' D=some (.lst (as.map V.ref))->Paired (λa d=>H' a=some (.tup (Ui d))) as (iT t)->Q (.ref D) H'
def nQ:aI ["_law_tree_here","_law_deeds_here","_law_child"] ["_law_tree_here"] (ay wy):=iS rfl rfl rfl rfl (by decide +kernel)
theorem uM (F:ix K "_law_deeds" "_law_deeds" wy f fd)(T:Txt mg)(b1:Binds K fd ["_law_tree_here"] [])(m1:mg "_law_deeds"=some (.ref f)):∀n,bQ P w K mg base fX n f fd ["_law_tree_here"] (nJ K n)
 | 0=>⟨λvs H Q E ⟨_,_,e,_⟩=>by rw [e];rfl,λA outer s H args us vs Q E _ _ _ _ ⟨_,_,_,_,h,_⟩=>absurd h (q_ _)⟩
 | n+1=>by
  have G:aE P w K mg base n "_law_deeds" ["_law_tree_here"] (nJ K n):=⟨f,fd,uM F T b1 m1 n,b1,F.kp,m1⟩;refine F.ok nQ (λvs H Q E h=>?_) (λeJ A outer s H vs Q E hr h=>?_)
  .obtain⟨_,_,rfl,_⟩:=h;rfl
  obtain⟨v,t,rfl,ht,Ru,hsz,q⟩:=h;refine⟨_,aj (bT (dF (aF cJ rfl T.ER j_ (ab (pv 0) (ab (gh (v:=.ty "str") rfl T.str jw rfl) ah)))) (ak (aQ (bz (ab (bR (ab cC (ab (pv 0) ah))) ah)))) aS)
   (aj (aC (i:=1) nQ.nd rfl (bA rfl) (bz ah))
   (aj (bJ b8 rfl (fA (aP bq (pv 0) ar (λ_ _=>rfl))) (ao (i:=2) nQ.nd rfl (bA rfl))
    (ak (aC (i:=1) nQ.nd rfl (bA rfl) (aZ jO (pv 1) (bc G hr rfl (ab (pv 2) ah))))))
   (ak (aQ (aZ jO (pv 1) (bz (ab (bR (ab cC (ab (aP bq (pv 0) ar (λ_ _=>rfl)) ah))) ah))))))),?_⟩
  nofun
  cases t with
  | w z =>
   unfold gG at ht;subst ht;refine⟨_,rfl,.str z,"str","str",true,rfl,.str z,dX,true,rfl,?_⟩;refine g8 ?_;refine⟨_,rfl,oJ,λu hu=>⟨xB,λD hD=>?_⟩⟩;have k1:=af hu (.tup [V.str "step",V.str z]);have e1:upd H u (.tup [V.str "step",V.str z]) u=some (.tup [.str "step",.str z]):=ae;generalize upd H u (.tup [V.str "step",V.str z])=H1 at k1 e1 hD;refine q D [u] _ (k1.free hD) (k1.trans (af hD _)) ae ?_;unfold iT;exact .cons ((af hD _) _ _ e1) .nil
  | n k cs =>
   have VS:=oF (.n k cs);unfold gG at ht;obtain⟨a,p,us,rfl,ha,hp,Hu⟩:=ht;have Y5:=ip.paired cs Hu;have lcs:=a_ Y5;have uT:1+Ks cs < n+1:=by unfold dp at Ru;exact Ru
   have hs1:1+zM cs<=100000:=by unfold sz at hsz;exact hsz
   refine⟨_,rfl,.ref a,"tuple","str",false,rfl,.tup ha,wR,false,rfl,?_⟩;refine dq ?_;refine⟨rJ,λL hL=>?_⟩;have k1:=af hL (.lst []);have e1:upd H L (.lst []) L=some (.lst []):=ae;generalize upd H L (.lst [])=H1 at k1 e1;refine⟨_,rfl,a,_,_,_,rfl,rfl,k1.tup ha,rfl,p,rfl,⟨_,k1.tup hp⟩,?_⟩;refine oy (xs:=us) (λi σ H5=>∃(D:Addr)(as:List Addr)(y2:Option V),σ=[aM a,aM D,y2]/\aB H H5/\H D=none/\H5 D=some (.lst (as.map V.ref))/\Paired (λa d=>H5 a=some (.tup (Ui d))) as ((cs.kn.take i).flatMap iT)) ⟨L,[],none,rfl,k1,hL,e1,.nil⟩ ?_ ?_ ?_
   .rintro i σ H5 _ ⟨D,as,y2,rfl,s5,_⟩;exact s5.tup hp
   .intro i x σ H5 ex lC
    ac_nf0
    obtain⟨D,as,y2,rfl,s5,fD,eD,pd⟩:=lC;have li:=(bj.mp ex).1;obtain⟨tc,N4⟩:∃tc,cs.kn[i]?=some tc:=⟨cs.kn[i]'(by omega),b9 (by omega)⟩;obtain⟨x',RO,tv⟩:=Paired.at_ Y5 i tc N4;rw [ex] at RO;cases RO;have jT:=bZ N4;have d1:=A7 cs tc jT;have z1:=vS cs tc jT;have tot:((cs.kn.take (i+1)).flatMap iT).length<=100000:=by
     have h1:((cs.kn.take (i+1)).flatMap iT).length<=(cs.kn.flatMap iT).length:=by
      conv=>rhs;rw [<-vJ (i+1) cs.kn,pZ,bp]
      omega
     rw [<-tF,oE] at h1;omega
    refine goN ?_
    ac_nf
    refine⟨_,rfl,_,rfl,x,tc,rfl,gG.keep (λ_ _ z=>s5.tup z) tc tv,by omega,by omega,λD2 as2 H6 f6 s6 e6 p6=>?_⟩;have Ue:=s6 _ _ eD;have EL:=a_ pd;have l26:=a_ p6;have HM:(cs.kn.take (i+1)).flatMap iT=(cs.kn.take i).flatMap iT++iT tc:=by
     rw [cP,N4,pZ];simp
    rw [HM,bp] at tot;refine⟨D,D2,_,_,rfl,rfl,Ue,e6,fits (by rw [av,av];omega),λD3 yz=>?_⟩;rw [<-bF];have k7:=af yz (.lst ((as++as2).map V.ref));refine⟨D3,as++as2,_,rfl,(s5.trans s6).trans k7,(s5.trans s6).free yz,ae,?_⟩;rw [HM];exact cu (Paired.eI pd λ_ _ z=>k7 _ _ (s6 _ _ z)) (Paired.eI p6 λ_ _ z=>k7 _ _ z)
   rintro σ H5 ⟨D,as,y2,rfl,s5,fD,eD,pd⟩;rw [show us.length=cs.kn.length from lcs,cO,<-tF] at pd;have EL:=a_ pd;have Tg:=oE cs;refine⟨_,rfl,_,rfl,a,_,_,_,rfl,rfl,s5.tup ha,rfl,oJ,λu hu=>⟨xB,λL2 DQ=>?_⟩⟩;have k6:=(af hu (.tup [V.str "make",V.int (k:Int)])).trans (af DQ (.lst [V.ref u]));have vu:upd (upd H5 u (.tup [V.str "make",V.int (k:Int)])) L2 (.lst [V.ref u]) u=some (.tup [.str "make",.int (k:Int)]):=(af DQ _) _ _ ae;have e6:upd (upd H5 u (.tup [V.str "make",V.int (k:Int)])) L2 (.lst [V.ref u]) L2=some (.lst [V.ref u]):=ae;generalize upd (upd H5 u (.tup [V.str "make",V.int (k:Int)])) L2 (.lst [V.ref u])=H6 at k6 vu e6;refine⟨D,L2,_,_,rfl,rfl,k6 _ _ eD,e6,fits (by rw [av];show _+1<=1000000;omega),λD3 yz=>?_⟩;have k7:=af yz (.lst (as.map V.ref++[V.ref u]));refine q D3 (as++[u]) _ ((s5.trans k6).free yz) ((s5.trans k6).trans k7) (by rw [ae,bF];rfl) ?_;rw [Ct];exact cu (Paired.eI pd λ_ _ z=>k7 _ _ (k6 _ _ z)) (.cons (k7 _ _ vu) .nil)
end
abbrev wg:Stmt:=top 55
def sB:Nat->Nat
 | 0=>1
 | n+1=>1+3 * sB n
def MC:∀n,1<=sB n
 | 0=>aD _
 | n+1=>by show 1<=1+3 * sB n;omega
def K1:∀{m n:Nat},m<=n->sB m<=sB n:=by
 intro m n h
 induction h with
 | refl=>exact aD _
 | step _ ih=>exact dH ih (by show _<=1+3 * sB _;omega)
structure jf (aa:List au) (m:Nat)(t:Tr)(z:Str):Prop where
 is:Is aa t z
 size:sz t<=sB m
 deep:dp t<=m
def jf.up {aa:List au}{m n:Nat}{t:Tr}{z:Str}(h:jf aa m t z)(l:m<=n):jf aa n t z:=⟨h.is,dH h.size (K1 l),dH h.deep l⟩
def jf.word {aa:List au}{m:Nat}{z:Str}(h:z∉hd aa):jf aa m (.w z) z:=⟨by unfold Is;exact⟨rfl,h⟩,by unfold sz;exact MC m,by unfold dp;exact fh _⟩
theorem Hf {aa:List au}{m:Nat}:∀{ts:List Tr}{zs:List Str},Paired (λt z=>jf aa m t z) ts zs->xx aa (gU.n5 ts) zs/\zM (gU.n5 ts)<=zs.length * sB m/\Ks (gU.n5 ts)<=m
 | _,_,.nil=>⟨by unfold gU.n5 xx;rfl,by unfold gU.n5 zM;simp,by unfold gU.n5 Ks;exact fh _⟩
 | _,_,.cons a b=>by
  obtain⟨x,y,z⟩:=Hf b;have h1:=a.size;have h2:=a.deep;refine⟨by unfold gU.n5 xx;exact⟨_,_,rfl,a.is,x⟩,?_,?_⟩
  .unfold gU.n5 zM;rw [dQ,Nat.succ_mul];omega
  unfold gU.n5 Ks;omega
def jf.node {aa:List au}{m k:Nat}{ts:List Tr}{ru:au}(e:aa[k]?=some ru)(h3:ru.2.length<=3)(p:Paired (λt z=>jf aa m t z) ts ru.2):jf aa (m+1) (.n k (gU.n5 ts)) ru.1:=by
 obtain⟨x,y,z⟩:=Hf p;refine⟨by unfold Is;exact⟨ru.2,e,x⟩,?_,by unfold dp;omega⟩;unfold sz;show 1+_<=1+3 * sB m;have:ru.2.length * sB m<=3 * sB m:=Nat.mul_le_mul_right _ h3;omega
section
def Et {H:Hp}{p D d:Addr}{zs:List Str}{kvs:List (aL×V)}{σ:St}{js:List (Nat×Str)}{Qp:Hp->Prop}{F:Tr->Str->Prop}(hσ:dN ["_law_part"] js σ=[none,aM d])(hp:aR K H p (zs.map V.str))(hz:zs.length<=1000)
  (hd:H d=some (.dK kvs))(ha:∀z∈zs,∃t,gG K H t ((bf kvs (Sum.inr z)).getD (.str z))/\F t z)(hD:H D=none)(q:∀ys ts H2,Paired (λv t=>gG K H2 t v) ys ts->Paired F ts zs->aB H H2->H2 D=some (.lst ys)->Qp H2) :
  ∃W:Nat->Nat->List V->St->Hp->Prop,(∃m,W 0 m [] (dN ["_law_part"] js σ) (upd H D (.lst []))) /\
 ∀i m ys σ' H,W i m ys σ' H->((oI K p).stop i H/\Qp H)\/((oI K p).go i H/\∃m',m' < m/\∀x H',(oI K p).mD i H x H'->dJ 0 x σ' H' λσ2 H2=>hV σ2 H2 λb H3 =>
  if b=true then Fe (gC 1) (gC 0) (gC 0) σ2 H3 λy H4=>H4 D=some (.lst ys)/\ys.length < sizeLine/\W (i+1) m' (ys++[y]) σ2 (upd H4 D (.lst (ys++[y]))) else W (i+1) m' ys σ2 H3):=by
 refine gA (xs:=zs.map V.str) (λi ys σ2 H2=>(∃ts,Paired (λv t=>gG K H t v) ys ts/\Paired F ts (zs.take i))/\(∃y0,σ2=[y0,aM d])/\aB H H2/\H2 D=some (.lst ys))
  ⟨⟨[],.nil,.nil⟩,⟨none,hσ⟩,af hD _,ae⟩ (λi ys σ2 H2 _ h=>h.2.2.1.tup hp) (λi x ys σ2 H2 ex h=>?_) (λys σ2 H2 h=>?_)
 .obtain⟨⟨ts,p1,p2⟩,⟨y0,rfl⟩,sm,hd2⟩:=h;rw [bo] at ex;obtain⟨z,ez,rfl⟩:=cf.mp ex;have li:=(bj.mp ez).1;obtain⟨t,tv,ft⟩:=ha z (bZ ez);have l1:=a_ p1;have l2:=a_ p2;rw [dC] at l2;refine goN (yB ?_);refine⟨_,rfl,d,rfl,.inl ⟨_,Rd.of (sm _ _ hd)⟩,_,rfl,_,rfl,_,bW.k (k:=Sum.inr z) (sm _ _ hd),hd2,bE (by omega),⟨ts++[t],cu p1 (.cons tv .nil),?_⟩,⟨_,rfl⟩,?_,ae⟩
  .rw [cP,ez];exact cu p2 (.cons ft .nil)
  intro b o hb;rw [ai (λz=>by rw [z,hD] at hb;cases hb)];exact sm b o hb
 obtain⟨⟨ts,p1,p2⟩,_,sm,hd2⟩:=h;rw [av,cO] at p2;exact q ys ts H2 (Paired.eI p1 λ_ t z=>gG.keep (λ_ _ y=>sm.tup y) t z) p2 sm hd2
structure Bm (K:a8)(H:Hp)(L:Addr)(aa:List au) (es:List Str)(kvs:List (aL×V)):Prop where
 hL:H L=some (.dK kvs)
 ky:kvs.map (·.1)=es.map Sum.inr
 tr:∀z v,bf kvs (Sum.inr z)=some v->∃t,gG K H t v/\jf aa es.length t z
 nd:es.Nodup
 sub:∀z∈es,z∈hm aa
def Bm.same {H H':Hp}{L:Addr}{aa:List au}{es:List Str}{kvs:List (aL×V)}(h:Bm K H L aa es kvs)(s:aB H H'):Bm K H' L aa es kvs :=
 ⟨s _ _ h.hL,h.ky,λz v e=>let ⟨t,a,b⟩:=h.tr z v e;⟨t,gG.keep (λ_ _ y=>s.tup y) t a,b⟩,h.nd,h.sub⟩
def Bm.at_ {H:Hp}{L:Addr}{aa:List au}{es:List Str}{kvs:List (aL×V)}(h:Bm K H L aa es kvs)(z:Str):(bf kvs (Sum.inr z)).isSome=decide (z∈es):=by
 by_cases c:z∈es
 .rw [bM c];exact(dP kvs (Sum.inr z)).mpr (by rw [h.ky];exact cM.mpr c)
 rw [cU c];cases e:(bf kvs (Sum.inr z)).isSome with
 | false=>rfl
 | true=>exact absurd (cM.mp (by rw [<-h.ky];exact(dP kvs (Sum.inr z)).mp e)) c
def Bm.get {H:Hp}{L:Addr}{aa:List au}{es:List Str}{kvs:List (aL×V)}(h:Bm K H L aa es kvs){z:Str}(c:z∈es):∃v t,bf kvs (Sum.inr z)=some v/\gG K H t v/\jf aa es.length t z:=by
 have:=h.at_ z;rw [bM c] at this;obtain⟨v,e⟩:=lW.mp this;obtain⟨t,a,b⟩:=h.tr z v e;exact⟨v,t,e,a,b⟩
def xP (K:a8):Sp:=λvs H Q _=>∃(R:Addr)(rs:List Addr)(aa:List au) (eV:List Str),vs=[.ref R]/\aG K H R (rs.map V.ref)/\bI K H rs aa/\aa.length<=8/\(∀ru∈aa,ru.2.length<=3)/\eV.length<=3/\(∀z∈hm aa,z∈eV) /\
 ∀(L:Addr)(kvs:List (aL×V))(H':Hp),H L=none->aB H H'->Bm K H' L aa (cE true aa) kvs->(cE true aa).length<=3->Q (.ref L) H'
abbrev NLs:List Str:=["_law_rules","_law_head","_law_parts","_law_heads","_law_least_here","_law_again","_law_number"]
def iJ:aI NLs ["_law_rules"] (ay wg):=iS rfl rfl rfl rfl (by decide +kernel)
def Dk (F:ix K "_law_least" "_law_least" wg f fd)(T:Txt mg):bQ P w K mg base fX 1 f fd ["_law_rules"] (xP K):=by
 refine F.ok iJ (λvs H Q E h=>?_) (λeJ A outer s H vs Q E hr h=>?_)
 .obtain⟨R,rs,aa,eV,rfl,_⟩:=h;rfl
 obtain⟨R,rs,aa,eV,rfl,hR,cS,br,h3,Tw,Nx,q⟩:=h;have hu:=fV hr;refine⟨_,aj (aC (i:=3) iJ.nd rfl (Or.inr rfl) (ba ["_law_head","_law_parts"] [] rfl (aX (pv 0)) (a9 rfl rfl) (by decide +kernel) rfl (by decide +kernel)
   (λ_ _ _ _ _=>fc (n:=2) K rfl (aA (ao (i:=0) (show (["_law_head","_law_parts"]:List Str).Nodup by decide +kernel) rfl (bA rfl)) (aA (ao (i:=1) (show (["_law_head","_law_parts"]:List Str).Nodup by decide +kernel) rfl (bA rfl)) bU))) (λ_ _ _ _ _=>bO)
   (λ_ _ _ _ _=>pv 0)))
  (aj (aC (i:=4) iJ.nd rfl (Or.inr rfl) gP)
  (aj (bJ b8 rfl (aX (pv 0)) (ao (i:=5) iJ.nd rfl (bA rfl))
   (ak (bJ b8 rfl (gu rfl T.CZ (ab (aF aK rfl T.len dI (ab (pv 0) ah)) ah)) (ao (i:=6) iJ.nd rfl (bA rfl))
    (aj (MQ (aP bS (pv 0) (pv 6) (λ_ _=>rfl)) (fc (n:=2) K rfl (aA (ao (i:=1) iJ.nd rfl (bA rfl)) (aA (ao (i:=2) iJ.nd rfl (bA rfl)) bU))))
    (ak (bT (PW.pt (ja (dG (dW hu (pv 1) (pv 4))) (iz (dF (aF (gB rfl) rfl T.all boot_all (ab
      (ba ["_law_part"] [(3,"_law_heads"),(4,"_law_least_here")] rfl (fA (pv 2)) (a9 rfl rfl) (by decide +kernel) rfl (by decide +kernel)
       (λ_ _ _ _ _=>ao (i:=0) (show (["_law_part","_law_heads","_law_least_here"]:List Str).Nodup by decide +kernel) rfl (bA rfl)) (λ_ _ _ _ _=>bO)
       (λ_ _ _ _ _=>K6 (sq (jb hu (pv 0) (pv 2))) (jL (ff (jc K) (pv 0) (pv 1) rfl)))) ah))))))
     (ak (iB hu (pv 4) (pv 1) (bR (ab (pv 6) (ab (aV eX rfl T.tup qa (ab (ba ["_law_part"] [(4,"_law_least_here")] rfl (fA (pv 2)) (a9 rfl rfl) (by decide +kernel) rfl (by decide +kernel)
      (λ_ _ _ _ _=>ao (i:=0) (show (["_law_part","_law_least_here"]:List Str).Nodup by decide +kernel) rfl (bA rfl)) (λ_ _ _ _ _=>bO) (λ_ _ _ _ _=>yb hu (pv 1) (pv 0) (pv 0) ⟨rfl,rfl,rfl,rfl⟩)) ah)) ah))) rfl)) aS))))))
  (ak (aQ (pv 4))))),?_⟩
 nofun
 have ll:=a_ cS;refine⟨_,rfl,R,rfl,⟨_,hR⟩,λD hD=>jU hR cS (by omega) hD λH1 s1 eD=>?_⟩;refine goN ?_
 ac_rfl
 refine λL hL=>?_;have s2:=s1.trans (af hL (.dK []));have HV:=af hL (.dK []) _ _ eD;have nL:D≠L:=λz=>by rw [z,hL] at eD;cases eD
 have fL:H L=none:=s1.free hL;have e2:upd H1 L (.dK []) L=some (.dK []):=ae;generalize upd H1 L (.dK [])=H2 at s2 HV e2;refine goN ?_
 ac_rfl
 have L2:Bm K H2 L aa [] []:=⟨e2,rfl,(λz v e=>by cases e),kJ,(λz h=>by cases h)⟩;refine⟨_,rfl,R,rfl,⟨_,s2.seq hR⟩,cQ (xs:=rs.map V.ref) (λi σ H3=>∃(es:List Str)(kvs:List (aL×V))(y1 y2 y5 y6:Option V),σ=[aM R,y1,y2,aM D,aM L,y5,y6]/\aB H H3/\H3 D=some (.lst ((hm aa).map V.str))/\Bm K H3 L aa es kvs/\es=passes (λe=>fU true (hm aa) e aa) i []) ⟨[],[],_,_,_,_,rfl,s2,HV,L2,rfl⟩ ?_ ?_ ?_⟩
 .rintro i σ H3 _ ⟨es,kvs,y1,y2,y5,y6,rfl,s3,_⟩;exact s3.seq hR
 .intro i x σ H3 ex lC
  ac_nf0
  obtain⟨es,kvs,y1,y2,y5,y6,rfl,s3,IX,L3,he⟩:=lC;refine goN ?_
  ac_nf
  refine⟨_,rfl,R,_,rfl,.inl (s3.seq hR),((rs.map V.ref).length:Int),rfl,by rw [av];omega,by rw [av];omega,?_⟩;rw [show (((rs.map V.ref).length:Nat):Int).toNat=aa.length by rw [av];omega];refine g9 (n:=aa.length) (λj σ H4=>∃(ij:List Str)(kvs:List (aL×V))(y1 y2 y6:Option V),σ=[aM R,y1,y2,aM D,aM L,some x,y6]/\aB H H4/\H4 D=some (.lst ((hm aa).map V.str))/\Bm K H4 L aa ij kvs/\ij=fU true (hm aa) es (aa.take j)) ⟨es,kvs,_,_,_,rfl,s3,IX,L3,rfl⟩ ?_ ?_
  .intro j σ H4 lj lC
   ac_nf0
   obtain⟨ij,kvs,y1,y2,y6,rfl,s4,Ef,L4,AQ⟩:=lC;have e1:aa[j]?=some aa[j]:=b9 lj;generalize iR:aa[j]=ru at e1;have Nt:=h3 ru (bZ e1);obtain⟨r,er,p,v1,v2⟩:=Paired.at_ cS j ru e1;have Bf:lQ (rs.map V.ref) (0+(j:Int))=some (.ref r):=by
    rw [jY];exact b_ (by rw [bo,er];rfl)
   have l3:ij.length<=3:=dH (iO _ _ L4.nd λz hz=>Nx z (L4.sub z hz)) Tw;have lkv:kvs.length=ij.length:=by
    have:=congrArg List.length L4.ky;rw [av,av] at this;exact this
   have pe:fU true (hm aa) es (aa.take (j+1))=dD true (hm aa) ij ru:=by
    rw [AQ,cP,e1];unfold fU;rw [vw];rfl
   refine goN ?_
   ac_rfl
   refine⟨_,rfl,_,rfl,R,_,_,_,rfl,rfl,s4.seq hR,Bf,r,_,rfl,s4.tup v1,rfl,_,_,rfl,_,_,rfl,rfl,?_⟩;refine⟨_,rfl,_,rfl,L,_,rfl,bW.k (k:=Sum.inr ru.1) L4.hL,_,rfl,?_⟩;rw [L4.at_ ru.1];show if (!decide (ru.1∈ij))=true then _ else _;refine cD (λc2=>?_) (λc2=>?_)
   .have Zf:ru.1∉ij:=λz=>by rw [bM z] at c2;cases c2
    refine⟨_,rfl,p,rfl,⟨_,s4.tup v2⟩,λD2 i4=>lH (zs:=ru.2) [aM D,aM L] (λz=>decide (z∈ij) || (true && !decide (z∈hm aa))) rfl (s4.tup v2) (by omega) i4 (λz _ H5 Qy s5 hq=>?_) λH5 s5 O6=>?_⟩
    .refine⟨_,rfl,_,rfl,L,_,rfl,bW.k (k:=Sum.inr z) (s5 _ _ L4.hL),?_⟩;refine⟨_,rfl,?_⟩;rw [L4.at_ z];refine cD (λc=>?_) (λc=>?_)
     .rw [c] at hq;exact hq
     have c':decide (z∈ij)=false:=by simpa using c
     rw [c',Bool.false_or,j4] at hq;refine⟨_,rfl,_,rfl,D,_,rfl,.inl (aG.of (s5 _ _ Ef)),rfl,df _,?_⟩;rw [gi];exact hq
    refine⟨D2,_,rfl,aG.of O6,?_⟩;rw [all_map];have tY:=s4.trans s5;have L5:=L4.same s5;refine⟨_,rfl,?_⟩;refine cD (λc=>?_) (λc=>?_)
    .have kid:∀z∈ru.2,∃t,gG K H5 t ((bf kvs (Sum.inr z)).getD (.str z))/\jf aa ij.length t z:=λz hz=>by
      have cz:=gq.mp c z hz;by_cases m:z∈ij
      .obtain⟨v,t,e,a,b⟩:=L5.get m;exact⟨t,by rw [e];exact a,b⟩
      rw [cU m,Bool.false_or,j4] at cz;have nh:z∉hm aa:=λy=>by rw [bM y] at cz;cases cz
      have ev:bf kvs (Sum.inr z)=none:=by
       cases e:bf kvs (Sum.inr z) with
       | none=>rfl
       | some v =>
        have:=L5.at_ z;rw [e,cU m] at this;cases this
      exact⟨.w z,by rw [ev];unfold gG;rfl,jf.word λy=>nh (l_.mpr y)⟩
     refine⟨_,rfl,_,rfl,p,rfl,⟨_,tY.tup v2⟩,λD3 yz=>Et (F:=λt z=>jf aa ij.length t z) (zs:=ru.2) rfl (tY.tup v2) (by omega) L5.hL kid yz λys ts H6 p1 p2 s6 e6=>?_⟩;refine⟨D3,ys,rfl,.inl ⟨aG.of e6,λt2 NW=>⟨oJ,λuf DW=>?_⟩⟩⟩;have k7:=(af NW (.tup ys)).trans (af DW (.tup [.int (0+(j:Int)),.ref t2]));have vt:aR K (upd (upd H6 t2 (.tup ys)) uf (.tup [.int (0+(j:Int)),.ref t2])) t2 ys:=(af DW _).tup (aR.of ae);have vn:aR K (upd (upd H6 t2 (.tup ys)) uf (.tup [.int (0+(j:Int)),.ref t2])) uf [.int (j:Int),.ref t2]:=by
      have:aR K (upd (upd H6 t2 (.tup ys)) uf (.tup [.int (0+(j:Int)),.ref t2])) uf [.int (0+(j:Int)),.ref t2]:=aR.of ae;rw [jY] at this ⊢;exact this
     generalize upd (upd H6 t2 (.tup ys)) uf (.tup [.int (0+(j:Int)),.ref t2])=H7 at k7 vt vn;have uG:=s6.trans k7;have L7:=L5.same uG;refine⟨_,rfl,_,rfl,L,_,rfl,.inl ⟨kvs,Sum.inr ru.1,L7.hL,rfl,bE (by omega),rfl⟩,?_⟩;have kt:∀a xs,aR K H7 a xs->aR K (upd H7 L (.dK (bK kvs (Sum.inr ru.1) (.ref uf)))) a xs:=λa xs z=>by
      rcases z with (z | ⟨u,z⟩) | z
      .exact .inl (.inl (by rw [ai (λy=>by rw [y,L7.hL] at z;cases z)];exact z))
      .exact .inl (.inr ⟨u,by rw [ai (λy=>by rw [y,L7.hL] at z;cases z)];exact z⟩)
      exact .inr z
     refine⟨ij++[ru.1],bK kvs (Sum.inr ru.1) (.ref uf),_,_,_,rfl,λb o hb=>?_,?_,⟨ae,?_,λz v e=>?_,?_,λz hz=>?_⟩,?_⟩
     .rw [ai (λz=>by rw [z,fL] at hb;cases hb)];exact(tY.trans uG) b o hb
     .rw [ai nL];exact uG _ _ (s5 _ _ Ef)
     .rw [iA (by rw [L4.ky];exact λz=>Zf (cM.mp z)),L4.ky,bF];rfl
     .rw [rK] at e;rw [bp,d8];by_cases cz:(Sum.inr z:aL)=Sum.inr ru.1
      .rw [ax cz] at e;cases e;have ez:z=ru.1:=by injection cz
       refine⟨.n j (gU.n5 ts),?_,?_⟩
       .unfold gG;exact⟨uf,t2,ys,rfl,kt _ _ vn,kt _ _ vt,ip.S_ (Paired.eI p1 λ_ t y=>gG.keep (λ_ _ x=>kt _ _ (k7.tup x)) t y)⟩
       rw [ez];exact jf.node e1 Nt p2
      rw [aw cz] at e;obtain⟨t,a,b⟩:=L7.tr z v e;exact⟨t,gG.keep kt t a,b.up (i6 _)⟩
     .exact j8.mpr ⟨L4.nd,by simp,λa ha b hb e=>Zf (by rw [<-bB.mp hb,<-e];exact ha)⟩
     .rcases cg.mp hz with h | h
      .exact L4.sub z h
      rw [bB.mp h];exact cx.mpr ⟨ru,bZ e1,rfl⟩
     rw [pe];unfold dD;rw [c,j4,ax c2]
    refine⟨ij,kvs,_,_,_,rfl,tY,s5 _ _ Ef,L5,?_⟩;rw [pe];unfold dD;rw [aw (λz=>c (fj.mp z).1)]
   refine⟨ij,kvs,_,_,_,rfl,s4,Ef,L4,?_⟩;rw [pe];unfold dD;rw [aw (λz=>c2 (fj.mp z).2)]
  rintro σ H4 ⟨ij,kvs,y1,y2,y6,rfl,s4,Ef,L4,AQ⟩;rw [cO] at AQ;exact⟨ij,kvs,_,_,_,_,rfl,s4,Ef,L4,by rw [AQ,he];rfl⟩
 rintro σ H3 ⟨es,kvs,y1,y2,y5,y6,rfl,s3,IX,L3,he⟩;rw [av,ll] at he;refine⟨_,rfl,?_⟩;have e:cE true aa=es:=he.symm;rw [<-e] at L3;exact q L kvs H3 fL s3 L3 (dH (iO _ _ L3.nd λz hz=>Nx z (L3.sub z hz)) Tw)
end
end gR
namespace L2
open PySem
def cX.SQ {K:a8}{C:Addr}{H H':Hp}{xs:List V}(s:cX C H H')(h:H C=some (.lst xs)):∀a ys,aR K H a ys->aR K H' a ys:=λa ys z=>by
 rcases z with (z | ⟨u,z⟩) | z
 .exact .inl (.inl (s _ _ (λy=>by rw [y,h] at z;cases z) z))
 .exact .inl (.inr ⟨u,s _ _ (λy=>by rw [y,h] at z;cases z) z⟩)
 exact .inr z
end L2
namespace gR
open PySem L2 M11
abbrev zV:Stmt:=top 56
abbrev wm:Stmt:=top 58
def lB (ks:List Nat):List V:=ks.map λk:Nat=>V.int (k:Int)
def Yi {ks:List Nat}(h:ks≠[]) (n:Int):(0:Int) < ((lB ks).length:Int)/\∃k∈ks,lQ (lB ks) (n % ((lB ks).length:Int))=some (.int (k:Int)):=by
 have l0:0 < ks.length:=List.length_pos_iff.mpr h;have le:(lB ks).length=ks.length:=by unfold lB;rw [av]
 have hp:(0:Int) < (ks.length:Int):=by omega
 have lt:(n % (ks.length:Int)).toNat < ks.length:=by
  have:=Int.emod_lt_of_pos n hp;have:=Int.emod_nonneg n (show (ks.length:Int)≠0 by omega);omega
 have eN:(((n % (ks.length:Int)).toNat:Nat):Int)=n % (ks.length:Int):=by
  have:=Int.emod_nonneg n (show (ks.length:Int)≠0 by omega);omega
 rw [le];refine⟨hp,ks[(n % (ks.length:Int)).toNat],pW lt,?_⟩;have:=b_ (xs:=lB ks) (j:=(n % (ks.length:Int)).toNat) (v:=.int ((ks[(n % (ks.length:Int)).toNat]:Nat):Int)) (by unfold lB;rw [bo,b9 lt];rfl);rw [eN] at this;exact this
def Bm.xW {K:a8}{H H':Hp}{L C:Addr}{aa:List au}{es:List Str}{kvs:List (aL×V)}{xs:List V}(l:Bm K H L aa es kvs)(s:cX C H H')(h:H C=some (.lst xs)):Bm K H' L aa es kvs :=
 ⟨s _ _ (λy=>by have:=l.hL;rw [y,h] at this;cases this) l.hL,l.ky,λz v e=>let ⟨t,a,b⟩:=l.tr z v e;⟨t,gG.keep (s.SQ h) t a,b⟩,l.nd,l.sub⟩
section
structure Bi (K:a8)(H:Hp)(R L C:Addr)(rs:List Addr)(aa:List au) (es:List Str)(kvs:List (aL×V))(cs:List Int):Prop where
 hR:H R=some (.lst (rs.map V.ref))
 cS:bI K H rs aa
 len:aa.length<=8
 h3:∀ru∈aa,ru.2.length<=3
 ls:Bm K H L aa es kvs
 all:∀z∈hm aa,z∈es
 QG:es.length<=3
 hC:H C=some (.lst (cs.map V.int))
 A1:cs.length<=1000
 nR:R≠C
def Bi.go {H H':Hp}{R L C:Addr}{rs:List Addr}{aa:List au}{es:List Str}{kvs:List (aL×V)}{cs I_:List Int}(h:Bi K H R L C rs aa es kvs cs)(s:cX C H H')(e:H' C=some (.lst (I_.map V.int)))(l:I_.length<=cs.length):Bi K H' R L C rs aa es kvs I_ :=
 ⟨s _ _ h.nR h.hR,h.cS.keep (s.SQ h.hC),h.len,h.h3,h.ls.xW s h.hC,h.all,h.QG,e,dH l h.A1,h.nR⟩
def vV (K:a8) (m:Nat):Sp:=λvs H Q _=>∃(R L C:Addr)(rs:List Addr)(aa:List au) (es:List Str)(kvs:List (aL×V))(cs:List Int)(x:Str) (n:Nat),vs=[.ref R,.ref L,.str x,.ref C,.int (n:Int)]/\m=n+1/\Bi K H R L C rs aa es kvs cs/\x∈es /\
 ∀(v:V)(t:Tr)(I_:List Int)(H':Hp),cX C H H'->H' C=some (.lst (I_.map V.int))->I_.length<=cs.length->gG K H' t v->jf aa (3+n) t x->Q v H'
abbrev NTl:List Str:=["_law_rules","_law_least_here","_law_name","_law_cells","_law_deep","_law_numbers","_law_number","_law_children","_law_part"]
def jH:aI NTl ["_law_rules","_law_least_here","_law_name","_law_cells","_law_deep"] (ay zV):=iS rfl rfl rfl rfl (by decide +kernel)
theorem yg (F:ix K "_law_tree" "_law_tree" zV f fd)(T:Txt mg)(b1:Binds K fd ["_law_rules","_law_least_here","_law_name","_law_cells","_law_deep"] [])(m1:mg "_law_tree"=some (.ref f)):∀n,bQ P w K mg base fX n f fd ["_law_rules","_law_least_here","_law_name","_law_cells","_law_deep"] (vV K n)
 | 0=>⟨λvs H Q E ⟨_,_,_,_,_,_,_,_,_,_,e,_⟩=>by rw [e];rfl,λA outer s H args us vs Q E _ _ _ _ ⟨_,_,_,_,_,_,_,_,_,_,_,h,_⟩=>by cases h⟩
 | m+1=>by
  have G:aE P w K mg base m "_law_tree" ["_law_rules","_law_least_here","_law_name","_law_cells","_law_deep"] (vV K m):=⟨f,fd,yg F T b1 m1 m,b1,F.kp,m1⟩;refine F.ok jH (λvs H Q E h=>?_) (λeJ A outer s H vs Q E hr h=>?_)
  .obtain⟨_,_,_,_,_,_,_,_,_,_,rfl,_⟩:=h;rfl
  obtain⟨R,L,C,rs,aa,es,kvs,cs,x,n,rfl,em,I0,hx,q⟩:=h;obtain rfl:m=n:=Nat.succ.inj em;have hu:=fV hr;have Tp:=Nat.lt_of_succ_lt hu;refine⟨_,aj (aC (i:=5) jH.nd rfl (bA rfl) (bz ah))
   (aj (bJ b8 rfl (gu rfl T.CZ (ab (aF aK rfl T.len dI (ab (pv 0) ah)) ah)) (ao (i:=6) jH.nd rfl (bA rfl))
    (ak (bT (bw iN (aP bq (aP bS (pv 0) (pv 6) (λ_ _=>rfl)) ar (λ_ _=>rfl)) (pv 2) (bV _))
     (ak (cA (gQ fZ gJ gK bL (pv 5) (ab (pv 6) ah)))) aS)))
   (aj (bT (PW.pt (kY (bw (Df Tp) (pv 3) (bz ah) (bV _)) (jJ (bw iN (pv 4) ar (bV _))))) (ak (aQ (eG hu (pv 1) (pv 2) (λ_ _=>rfl)))) aS)
   (aj (aC (i:=6) jH.nd rfl (bA rfl) (aP bS (pv 5) (aZ fJ (Ge fZ PySem.F.slot_list_pop PySem.F.type_list_pop GY (pv 3)) (aF aK rfl T.len dI (ab (pv 5) ah))) (λ_ _=>rfl)))
   (aj (aC (i:=7) jH.nd rfl (bA rfl) (bz ah))
   (aj (bJ b8 rfl (fA (aP bq (aP bS (pv 0) (pv 6) (λ_ _=>rfl)) ar (λ_ _=>rfl))) (ao (i:=8) jH.nd rfl (bA rfl))
    (aj (qI (bT (dG (jb hu (pv 8) (pv 1))) (ak (aC (i:=8) jH.nd rfl (bA rfl) (bc G hr rfl (ab (pv 0) (ab (pv 1) (ab (pv 8) (ab (pv 3) (ab (aZ Am (pv 4) ar) ah)))))))) aS))
    (ak (cA (gQ fZ gJ gK bL (pv 7) (ab (pv 8) ah))))))
   (ak (aQ (bR (ab (pv 6) (ab (aV eX rfl T.tup qa (ab (pv 7) ah)) ah)))))))))),?_⟩
  nofun
  have ll:=a_ I0.cS;have len:=I0.len;have fw:=I0.A1;refine⟨rJ,λN hN=>?_⟩;have k1:=af hN (.lst []);have e1:upd H N (.lst []) N=some (.lst []):=ae;have nNC:N≠C:=λz=>by rw [z,I0.hC] at hN;cases hN
  generalize upd H N (.lst [])=H1 at k1 e1;refine goN ?_
  ac_rfl
  refine⟨_,rfl,R,_,rfl,.inl (aG.of (k1 _ _ I0.hR)),((rs.map V.ref).length:Int),rfl,by rw [av];omega,by rw [av];omega,?_⟩;rw [show (((rs.map V.ref).length:Nat):Int).toNat=aa.length by rw [av];omega];refine g9 (n:=aa.length) (λi σ H5=>∃(ks:List Nat)(y6:Option V),σ=[aM R,aM L,some (.str x),aM C,some (.int (m:Int)),aM N,y6,none,none]/\aB H H5/\H5 N=some (.lst (lB ks))/\ks.length<=i/\(∀k∈ks,∃ru,aa[k]?=some ru/\ru.1=x)/\∀(k:Nat)(ru:au),k < i->aa[k]?=some ru->ru.1=x->k∈ks)
   ⟨[],none,rfl,k1,e1,aD _,(λk h=>by cases h),λk _ h=>by omega⟩ ?_ ?_
  .intro i σ H5 hi lC
   ac_nf0
   obtain⟨ks,y6,rfl,s5,e5,l5,m5,c5⟩:=lC;have er:aa[i]?=some aa[i]:=b9 hi;generalize iR:aa[i]=ru at er;obtain⟨r,err,p,v1,v2⟩:=Paired.at_ I0.cS i ru er;have Bf:lQ (rs.map V.ref) (0+(i:Int))=some (.ref r):=by
    rw [jY];exact b_ (by rw [bo,err];rfl)
   refine goN ?_
   ac_nf
   refine⟨_,rfl,_,rfl,R,_,_,_,rfl,rfl,aG.of (s5 _ _ I0.hR),Bf,r,_,_,_,rfl,rfl,s5.tup v1,rfl,_,rfl,rfl,decide (ru.1=x),?_,?_⟩
   .show V.bl (decide (V.str ru.1=V.str x))=_;by_cases h:ru.1=x
    .rw [bM h,bM (congrArg V.str h)]
    rw [cU h,cU (λy=>h (by injection y))]
   refine cD (λc=>?_) (λc=>?_)
   .have c':=dw c;refine⟨_,rfl,.inl ⟨rfl,_,aG.of e5⟩,_,rfl,N,_,_,rfl,rfl,e5,bE (by unfold lB;rw [av];omega),?_⟩;refine⟨ks++[i],_,rfl,?_,?_,by rw [bp,d8];omega,λk hk=>?_,λk IF lk e2 h2=>?_⟩
    .intro b o hb;rw [ai (λz=>by rw [z,hN] at hb;cases hb)];exact s5 b o hb
    .rw [ae];unfold lB;rw [bF,jY];rfl
    .rcases cg.mp hk with h | h
     .exact m5 k h
     rw [bB.mp h];exact⟨ru,er,c'⟩
    by_cases ck:k < i
    .exact iG _ (c5 k IF ck e2 h2)
    have:k=i:=by omega
    rw [this];exact fS _ cI
   refine⟨ks,_,rfl,s5,e5,by omega,m5,λk IF lk e2 h2=>?_⟩;by_cases ck:k < i
   .exact c5 k IF ck e2 h2
   have:k=i:=by omega
   rw [this,er] at e2;cases e2;exact absurd (bM h2) c
  rintro σ H5 ⟨ks,y6,rfl,s5,e5,l5,m5,c5⟩;have ksn:ks≠[]:=by
   obtain⟨ru,iR,ex⟩:=cx.mp (I0.ls.sub x hx);obtain⟨k,ek⟩:=iw iR;have:=c5 k ru (bj.mp ek).1 ek ex;exact λz=>by rw [z] at this;cases this
  have I5:=I0.go (I_:=cs) (λb o _ h=>s5 b o h) (s5 _ _ I0.hC) (aD _);obtain⟨lv,lt,el,tl,SY⟩:=I5.ls.get hx;have leaf:∀{H6:Hp},aB H5 H6->Q lv H6:=λs6=>q lv lt cs _ (λb o _ h=>s6 _ _ (s5 _ _ h)) (s6 _ _ I5.hC) (aD _) (gG.keep (λ_ _ y=>s6.tup y) lt tl) (SY.up (by have:=I0.QG;omega));have QD:∀{H6:Hp},aB H5 H6->bW H6 L (.str x) (some lv):=λs6=>by
   have:=bW.k (k:=Sum.inr x) (s6 _ _ I5.ls.hL);rw [el] at this;exact this
  refine⟨_,rfl,rJ,λL4 TU=>?_⟩;have k6:=af TU (.lst []);have e6:upd H5 L4 (.lst []) L4=some (.lst []):=ae;generalize upd H5 L4 (.lst [])=H6 at k6 e6;have I6:=I5.go (I_:=cs) (λb o _ h=>k6 b o h) (k6 _ _ I5.hC) (aD _);refine⟨C,L4,_,rfl,rfl,aG.of I6.hC,aG.of e6,_,rfl,?_⟩;refine cD (λc=>?_) (λc=>?_)
  .exact⟨_,rfl,_,rfl,L,_,rfl,QD k6,leaf k6⟩
  refine⟨_,rfl,rfl,decide ((m:Int)=0),?_,?_⟩
  .show V.bl (decide (V.int (m:Int)=V.int 0))=_;by_cases h:(m:Int)=0
   .rw [bM h,bM (congrArg V.int h)]
   rw [cU h,cU (λy=>h (by injection y))]
  refine cD (λc2=>?_) (λc2=>?_)
  .exact⟨_,rfl,_,rfl,L,_,rfl,QD k6,leaf k6⟩
  have m0:(m:Int)≠0:=λz=>c2 (bM z);obtain⟨m',rfl⟩:∃m',m=m'+1:=⟨m - 1,by omega⟩;have csn:cs≠[]:=λz=>by rw [z] at c;exact c rfl
  obtain⟨xu,c0,rfl⟩:∃xu c0,cs=xu++[c0]:=⟨cs.dropLast,cs.getLast csn,(List.dropLast_concat_getLast csn).symm⟩;have RG:=I6.hC;rw [bF] at RG;refine⟨_,rfl,_,rfl,.inl ⟨rfl,_,aG.of RG⟩,C,_,.int c0,rfl,rfl,RG,x_,?_⟩;rw [show (xu.map V.int++[c0].map V.int).dropLast=xu.map V.int from o_ ..];have k7:cX C H6 (upd H6 C (.lst (xu.map V.int))):=λb o nb hb=>by rw [ai nb];exact hb
  have e7:upd H6 C (.lst (xu.map V.int)) C=some (.lst (xu.map V.int)):=ae;have XE:upd H6 C (.lst (xu.map V.int)) N=some (.lst (lB ks)):=by rw [ai nNC];exact k6 _ _ e5
  generalize upd H6 C (.lst (xu.map V.int))=H7 at k7 e7 XE;have I7:=I6.go k7 e7 (by rw [bp];omega);obtain⟨hp,k,hk,ek⟩:=Yi ksn c0;obtain⟨ru,er,rfl⟩:=m5 k hk;refine⟨_,rfl,N,_,rfl,.inl (aG.of XE),_,_,rfl,rfl,hp,N,_,_,_,rfl,rfl,aG.of XE,ek,?_⟩;refine⟨rJ,λD hD=>?_⟩;have k8:=af hD (.lst []);have e8:upd H7 D (.lst []) D=some (.lst []):=ae;have VM:D≠C:=λz=>by rw [z,e7] at hD;cases hD
  have nRD:R≠D:=λz=>by
   have h:=I7.hR;rw [z,hD] at h;cases h
  generalize upd H7 D (.lst [])=H8 at k8 e8;have I8:=I7.go (I_:=xu) (λb o _ h=>k8 b o h) (k8 _ _ e7) (aD _);obtain⟨r,err,p,v1,v2⟩:=Paired.at_ I8.cS k ru er;have Bf:lQ (rs.map V.ref) (k:Int)=some (.ref r):=b_ (by rw [bo,err];rfl);have Nt:=I0.h3 ru (bZ er);refine⟨_,rfl,_,rfl,R,_,_,_,rfl,rfl,aG.of I8.hR,Bf,r,_,_,_,rfl,rfl,v1,rfl,p,rfl,⟨_,v2⟩,?_⟩;refine oy (xs:=ru.2.map V.str) (λi σ H9=>∃(LN:List Int)(ys:List V)(ts:List Tr)(y8:Option V),σ=[aM R,aM L,some (.str ru.1),aM C,some (.int ((m'+1:Nat):Int)),aM N,some (.int (k:Int)),aM D,y8]/\(∀b o,b≠C->b≠D->H8 b=some o->H9 b=some o)/\Bi K H9 R L C rs aa es kvs LN/\LN.length<=xu.length/\H9 D=some (.lst ys)/\aR K H9 p (ru.2.map V.str)/\Paired (λv t=>gG K H9 t v) ys ts/\Paired (λt z=>jf aa (3+m') t z) ts (ru.2.take i))
   ⟨xu,[],[],none,rfl,λb o _ _ h=>h,I8,aD _,e8,v2,.nil,.nil⟩ ?_ ?_ ?_
  .rintro i σ H9 _ ⟨LN,ys,ts,y8,rfl,_,_,_,_,Tv,_⟩;exact Tv
  .intro i z0 σ H9 RM lC
   ac_nf0
   obtain⟨LN,ys,ts,y8,rfl,s9,I9,l9,XI,Tv,p1,p2⟩:=lC;rw [bo] at RM;obtain⟨z,ez,rfl⟩:=cf.mp RM;have li:=(bj.mp ez).1;have l1:=a_ p1;have l2:=a_ p2;rw [dC] at l2;refine goN ?_
   ac_rfl
   refine⟨λσ HA=>∃(Pa:List Int)(v:V)(t:Tr),σ=[aM R,aM L,some (.str ru.1),aM C,some (.int ((m'+1:Nat):Int)),aM N,some (.int (k:Int)),aM D,some v]/\cX C H9 HA/\Bi K HA R L C rs aa es kvs Pa/\Pa.length<=xu.length/\gG K HA t v/\jf aa (3+m') t z,?_,?_⟩
   .refine⟨_,rfl,_,rfl,L,_,rfl,bW.k (k:=Sum.inr z) I9.ls.hL,_,rfl,?_⟩;rw [I9.ls.at_ z];refine cD (λcz=>?_) (λcz=>?_)
    .refine⟨_,rfl,_,rfl,_,rfl,_,rfl,_,rfl,_,_,rfl,rfl,?_⟩;refine⟨R,L,C,rs,aa,es,kvs,LN,z,m',(by show [V.ref R,V.ref L,V.str z,V.ref C,V.int (((m'+1:Nat):Int) - 1)]=_;rw [show (((m'+1:Nat):Int) - 1)=(m':Int) by omega]),rfl,I9,dw cz,λv t Pa HA sA eA lA UL Vq=>?_⟩;exact⟨Pa,v,t,rfl,sA,I9.go sA eA lA,dH lA l9,UL,Vq⟩
    have nz:z∉es:=λh=>cz (bM h);exact⟨LN,.str z,.w z,rfl,λ_ _ _ h=>h,I9,l9,by unfold gG;rfl,jf.word λh=>nz (I0.all z (l_.mpr h))⟩
   rintro σ HA ⟨Pa,v,t,rfl,sA,IA,lA,UL,Vq⟩;have Ud:=sA _ _ VM XI;have kt:∀a xs,aR K HA a xs->aR K (upd HA D (.lst (ys++[v]))) a xs:=λ_ _ z=>aW Ud z;refine⟨_,rfl,.inl ⟨rfl,_,aG.of Ud⟩,_,rfl,D,_,_,rfl,rfl,Ud,bE (by omega),?_⟩;have sB2:cX D HA (upd HA D (.lst (ys++[v]))):=λb o nb hb=>by rw [ai nb];exact hb
   refine⟨Pa,ys++[v],ts++[t],_,rfl,λb o nC nD h=>?_,⟨?_,IA.cS.keep kt,IA.len,IA.h3,IA.ls.xW sB2 Ud,IA.all,IA.QG,?_,IA.A1,IA.nR⟩,lA,ae,kt _ _ (sA.SQ I9.hC _ _ Tv),?_,?_⟩
   .rw [ai nD];exact sA _ _ nC (s9 _ _ nC nD h)
   .rw [ai nRD];exact IA.hR
   .rw [ai (fk VM)];exact IA.hC
   .exact cu (Paired.eI p1 λ_ t y=>gG.keep (λ_ _ x=>kt _ _ (sA.SQ I9.hC _ _ x)) t y) (.cons (gG.keep kt t UL) .nil)
   rw [cP,ez];exact cu p2 (.cons Vq .nil)
  rintro σ H9 ⟨LN,ys,ts,y8,rfl,s9,I9,l9,XI,Tv,p1,p2⟩;rw [av,cO] at p2;refine⟨_,rfl,_,rfl,D,_,rfl,.inl ⟨aG.of XI,λt2 NW=>⟨oJ,λnd fnd=>?_⟩⟩⟩;have kA:=(af NW (.tup ys)).trans (af fnd (.tup [.int (k:Int),.ref t2]));have vt:aR K (upd (upd H9 t2 (.tup ys)) nd (.tup [.int (k:Int),.ref t2])) t2 ys:=(af fnd _).tup (aR.of ae);have vn:aR K (upd (upd H9 t2 (.tup ys)) nd (.tup [.int (k:Int),.ref t2])) nd [.int (k:Int),.ref t2]:=aR.of ae;generalize upd (upd H9 t2 (.tup ys)) nd (.tup [.int (k:Int),.ref t2])=HA at kA vt vn;refine q (.ref nd) (.n k (gU.n5 ts)) LN HA (λb o nC h=>?_) (kA _ _ I9.hC) (by rw [bp];omega) ?_ ?_
  .refine kA _ _ (s9 _ _ nC (λz=>?_) (k8 _ _ (k7 _ _ nC (k6 _ _ (s5 _ _ h)))));rw [z] at h;rw [k7 _ _ VM (k6 _ _ (s5 _ _ h))] at hD;cases hD
  .unfold gG;exact⟨nd,t2,ys,rfl,vn,vt,ip.S_ (Paired.eI p1 λ_ t y=>gG.keep (λ_ _ x=>kA.tup x) t y)⟩
  exact jf.node er Nt p2
end
theorem wA:∀(ds:List Dd),(ds.flatMap KU).length<=ds.length
 | []=>aD _
 | .step z::r=>by rw [vv,bp,dQ];have:=wA r;show 1+_<=_;omega
 | .make k::r=>by rw [vv,bp,dQ];have:=wA r;show 0+_<=_;omega
def MK (t:Tr):(row t).length<=sz t:=by
 have h1:=wA (iT t);have h2:=oF t;rw [vT] at h1;omega
section
def xQ (K:a8):Sp:=λvs H Q _=>∃(R C:Addr)(rs:List Addr)(aa:List au) (eV:List Str)(cs:List Int)(x:Str),vs=[.ref R,.str x,.ref C]/\H R=some (.lst (rs.map V.ref))/\bI K H rs aa/\aa.length<=8/\(∀ru∈aa,ru.2.length<=3)/\eV.length<=3/\(∀z∈hm aa,z∈eV)/\(∀z∈hm aa,z∈cE true aa)/\aG K H C (cs.map V.int)/\cs.length<=1000/\x∈hm aa /\
 ∀(v:V)(t:Tr)(H':Hp),aB H H'->gG K H' t v->jf aa 9 t x->(row t).length<=40->Q v H'
abbrev NDt:List Str:=["_law_rules","_law_name","_law_cells","_law_least_here","_law_tree_here"]
def rZ:aI NDt ["_law_rules","_law_name","_law_cells"] (ay wm):=iS rfl rfl rfl rfl (by decide +kernel)
def Dl (F:ix K "_law_drawn_tree" "_law_drawn_tree" wm f fd)(T:Txt mg)(GL:aE P w K mg base 10 "_law_least" ["_law_rules"] (xP K))(GT:aE P w K mg base 10 "_law_tree" ["_law_rules","_law_least_here","_law_name","_law_cells","_law_deep"] (vV K 7))
  (GD:aE P w K mg base 10 "_law_deeds" ["_law_tree_here"] (nJ K 10)):bQ P w K mg base fX 11 f fd ["_law_rules","_law_name","_law_cells"] (xQ K):=by
 refine F.ok rZ (λvs H Q E h=>?_) (λeJ A outer s H vs Q E hr h=>?_)
 .obtain⟨R,C,rs,aa,eV,cs,x,rfl,_⟩:=h;rfl
 obtain⟨R,C,rs,aa,eV,cs,x,rfl,hR,cS,br,h3,Tw,Nx,NH,hC,Hu,hx,q⟩:=h;have hu:=fV hr;refine⟨_,aj (aC (i:=3) rZ.nd rfl (bA rfl) (bc GL hr rfl (ab (pv 0) ah)))
  (aj (aC (i:=4) rZ.nd rfl (bA rfl) (bc GT hr rfl (ab (pv 0) (ab (pv 3) (ab (pv 1) (ab (aV cY rfl T.lst dY (ab (pv 2) ah)) (ab ar ah)))))))
  (aj (bT (bw ye (aF aK rfl T.len dI (ab (ba ["_law_deed"] [] rfl (aX (bc GD hr rfl (ab (pv 4) ah))) (a9 rfl rfl) (by decide +kernel) rfl (by decide +kernel)
    (λ_ _ _ _ _=>ao (i:=0) (show (["_law_deed"]:List Str).Nodup by decide +kernel) rfl (bA rfl)) (λ_ _ _ _ _=>hJ (bw iN (aP (jS K) (pv 0) ar (λ_ _=>rfl)) cC (bV _))) (λ_ _ _ _ _=>pv 0)) ah)) ar (bV _))
   (ak (aQ (eG hu (pv 3) (pv 1) (λ_ _=>rfl)))) aS)
  (ak (aQ (pv 4))))),?_⟩
 nofun
 refine⟨_,rfl,R,rs,aa,eV,rfl,aG.of hR,cS,br,h3,Tw,Nx,λL kvs H1 fL s1 L1 l3=>?_⟩;refine⟨_,rfl,_,rfl,_,rfl,_,rfl,C,_,rfl,.inl (s1.seq hC),λC2 IT=>?_⟩;have k2:=af IT (.lst (cs.map V.int));have e2:upd H1 C2 (.lst (cs.map V.int)) C2=some (.lst (cs.map V.int)):=ae;have fC:H C2=none:=s1.free IT;have nRC:R≠C2:=λz=>by rw [z,fC] at hR;cases hR
 generalize upd H1 C2 (.lst (cs.map V.int))=H2 at k2 e2;have s2:=s1.trans k2;have I2:Bi K H2 R L C2 rs aa (cE true aa) kvs cs:=⟨s2 _ _ hR,cS.same s2,br,h3,L1.same k2,NH,l3,e2,Hu,nRC⟩;refine⟨R,L,C2,rs,aa,cE true aa,kvs,cs,x,6,rfl,rfl,I2,NH x hx,λv t I_ H3 sT e3 l' tv ok=>?_⟩;have s3:aB H H3:=λb o hb=>sT b o (λz=>by rw [z,fC] at hb;cases hb) (s2 b o hb);have I3:=I2.go sT e3 l';obtain⟨lv,lt,el,tl,SY⟩:=I3.ls.get (NH x hx);have dt:=ok.deep;have st:sz t<=29524:=dH ok.size (by decide);refine⟨_,rfl,v,t,rfl,tv,by omega,by omega,λD as H4 fD s4 eD pd=>?_⟩;have lad:=a_ pd;have Tf:=oF t;refine⟨D,rfl,⟨_,aG.of eD⟩,λD2 i4=>cH (xs:=as.map V.ref) (λk ys σ2 HC=>ys.length=(((iT t).take k).flatMap KU).length/\(∃y0,σ2=[y0])/\aB H4 HC/\HC D2=some (.lst ys))
    ⟨rfl,⟨none,rfl⟩,af i4 _,ae⟩ (λk ys σ2 HC _ h=>?_) (λk y ys σ2 HC ex h=>?_) (λys σ2 HC h=>?_)⟩
 .obtain⟨_,_,sC,_⟩:=h;exact aG.of (sC _ _ eD)
 .obtain⟨ly,⟨y0,rfl⟩,sC,eC⟩:=h;rw [bo] at ex;obtain⟨ad,ead,rfl⟩:=cf.mp ex;have li:=(bj.mp ead).1;obtain⟨d,ed⟩:∃d,(iT t)[k]?=some d:=⟨(iT t)[k]'(by omega),b9 (by omega)⟩;obtain⟨ad',RZ,vd⟩:=Paired.at_ pd k d ed;rw [ead] at RZ;cases RZ;have Ul:ys.length<=1000000:=by
   have:=wA ((iT t).take k);rw [dC] at this;omega
  have HM:((iT t).take (k+1)).flatMap KU=((iT t).take k).flatMap KU++KU d:=by
   rw [cP,ed,pZ];simp
  refine goN ?_;cases d with
  | step z =>
   have vA:aR K HC ad [.str "step",.str z]:=aR.of (sC _ _ vd);refine⟨_,rfl,ad,_,_,_,rfl,rfl,vA,rfl,rfl,_,rfl,?_⟩;refine g8 ?_;refine⟨_,rfl,eC,bE Ul,?_,⟨_,rfl⟩,λb o hb=>?_,ae⟩
   .rw [HM,bp,bp,ly];rfl
   rw [ai (λz=>by rw [z,i4] at hb;cases hb)];exact sC b o hb
  | make k2 =>
   have vA:aR K HC ad [.str "make",.int (k2:Int)]:=aR.of (sC _ _ vd);refine⟨_,rfl,ad,_,_,_,rfl,rfl,vA,rfl,rfl,_,rfl,?_⟩;refine dq ?_;refine⟨?_,⟨_,rfl⟩,sC,eC⟩;rw [HM];show _=(_++[]).length;rw [ir];exact ly
 obtain⟨ly,_,sC,eC⟩:=h;rw [av,qU (by omega),vT] at ly;have s5:=s4.trans sC;have UM:=gG.keep (λ_ _ z=>s5.tup z) t tv;refine⟨D2,_,rfl,.inl (aG.of eC),_,_,rfl,rfl,_,rfl,?_⟩;refine cD (λc=>?_) (λc=>?_)
 .have lg:bW HC L (.str x) (some lv):=by
   have:=bW.k (k:=Sum.inr x) (s5 _ _ I3.ls.hL);rw [el] at this;exact this
  refine⟨_,rfl,_,rfl,L,_,rfl,lg,?_⟩;refine q lv lt HC (s3.trans s5) (gG.keep (λ_ _ y=>s5.tup y) lt tl) (SY.up (by omega)) ?_;have h1:=MK lt;have h2:sB (cE true aa).length<=sB 3:=K1 l3;have h4:sB 3=40:=rfl;have:=SY.size;omega
 refine⟨_,rfl,q v t HC (s3.trans s5) UM ok ?_⟩;have c':¬(40:Int) < (ys.length:Int):=λh=>c (bM h);omega
end
def Pu {A:Around}{k n:Nat}(hr:fg k A)(h:n<=16 * k+200):A.units+n < cLine:=by have:=hr.un;omega
def N2 {aa:List au}:∀{t:Tr}{p:Str},Is aa t p->ic aa t p=true
 | .w z,p,h=>by
  unfold Is at h;obtain⟨rfl,nh⟩:=h;show (!decide (p∈hd aa) && decide (p=p))=true;rw [cU nh,bM rfl];rfl
 | .n k cs,p,h=>by
  unfold Is at h;obtain⟨bC,e,_⟩:=h;show (decide (p∈hd aa) && decide (AR aa k=some p))=true;rw [bM (sO (ru:=(p,bC)) (bZ e)),bM (by unfold AR;rw [e];rfl)];rfl
theorem Cc:∀ts:gU,gU.n5 ts.kn=ts
 | .nil=>rfl
 | .cons t r=>by show gU.cons t (gU.n5 r.kn)=_;rw [Cc r]
mutual
theorem wz {aa:List au}:∀(t:Tr)(x:Str)(p:List Tr),Is aa t x->fO (mU aa) ((iT t).map De.d) p=some (p++[t])
 | .w z,x,p,h=>by
  unfold Is at h;unfold iT;show (if z∈hd aa then none else some (p++[Tr.w z])).bind (fO (mU aa) [])=_;rw [aw h.2];rfl
 | .n k cs,x,p,h=>by
  unfold Is at h;obtain⟨bC,er,hi⟩:=h;rw [Ct,bF,jl,xZ cs bC p hi];obtain⟨ln,pr⟩:=xx.paired cs hi;show (ib aa k (p++cs.kn)).bind (fO (mU aa) [])=_;have em:ib aa k (p++cs.kn)=some (p++[.n k cs]):=by
   unfold ib;rw [er];have l1:(p++cs.kn).length - bC.length=p.length:=by rw [bp];omega
   show (if (decide (bC.length<=(p++cs.kn).length) && kr aa ((p++cs.kn).drop ((p++cs.kn).length - bC.length)) bC)=true then some ((p++cs.kn).take ((p++cs.kn).length - bC.length)++[.n k (gU.n5 ((p++cs.kn).drop ((p++cs.kn).length - bC.length)))]) else none)=_;rw [l1,List.drop_left,List.take_left,Cc,bM (by rw [bp];omega),w5 ln (λi t q et eq=>N2 (pr i t q et eq))];rfl
  rw [em];rfl
theorem xZ {aa:List au}:∀(ts:gU) (ps:List Str)(p:List Tr),xx aa ts ps->fO (mU aa) ((jv ts).map De.d) p=some (p++ts.kn)
 | .nil,ps,p,h=>by
  unfold jv;show some p=some (p++[]);rw [ir]
 | .cons t r,ps,p,h=>by
  unfold xx at h;obtain⟨q,EK,rfl,h1,h2⟩:=h;unfold jv;rw [bF,jl,wz t q p h1];show fO (mU aa) ((jv r).map De.d) (p++[t])=_;rw [xZ r EK (p++[t]) h2,lU];rfl
end
def FY {aa:List au}{t:Tr}{x:Str}(h:Is aa t x)(hx:x∈hd aa):resT aa ((iT t).map De.d++[.dn])=some t:=by
 unfold resT;rw [rC,rF,o_];show Ec (fO (mU aa) ((iT t).map De.d) [])=some t;rw [wz t x [] h];cases t with
 | w z =>
  unfold Is at h;exact absurd (h.1 ▸ hx) h.2
 | n k cs=>rfl
mutual
theorem Cs {aa:List au}:∀(t:Tr)(x:Str),Is aa t x->∀k,Dd.make k∈iT t->k < aa.length
 | .w z,x,h,k,m=>by
  unfold iT at m;have:=bB.mp m;cases this
 | .n j cs,x,h,k,m=>by
  unfold Is at h;obtain⟨bC,er,hi⟩:=h;rw [Ct] at m;rcases cg.mp m with q | q
  .exact yM cs bC hi k q
  cases bB.mp q;exact(bj.mp er).1
theorem yM {aa:List au}:∀(ts:gU) (ps:List Str),xx aa ts ps->∀k,Dd.make k∈jv ts->k < aa.length
 | .nil,ps,h,k,m=>by unfold jv at m;cases m
 | .cons t r,ps,h,k,m=>by
  unfold xx at h;obtain⟨q,EK,rfl,h1,h2⟩:=h;unfold jv at m;rcases cg.mp m with y | y
  .exact Cs t q h1 k y
  exact yM r EK h2 k y
end
def Ol {aa:List au}{t:Tr}{x:Str}(h:Is aa t x):∀d∈(iT t).map De.d,IC aa d:=by
 intro d hd2;obtain⟨y,hy,rfl⟩:=cx.mp hd2;cases y with
 | step z=>exact trivial
 | make k=>exact Cs t x h k hy
abbrev U7:Stmt:=top 59
section
def Mr (K:a8) (n:Nat):Sp:=λvs H Q _=>∃(v u:V)(t:Tr),vs=[v,u]/\gG K H t v/\gG K H t u/\dp t < n/\sz t<=100000/\∀H',aB H H'->Q (.bl true) H'
def U5:aI ["_law_answer","_law_tree_here"] ["_law_answer","_law_tree_here"] (ay U7):=iS rfl rfl rfl rfl (by decide +kernel)
theorem K7 (F:ix K "_law_is" "_law_is" U7 f fd)(T:Txt mg)(b1:Binds K fd ["_law_answer","_law_tree_here"] [])(m1:mg "_law_is"=some (.ref f)):∀n,bQ P w K mg base fX n f fd ["_law_answer","_law_tree_here"] (Mr K n)
 | 0=>⟨λvs H Q E ⟨_,_,_,e,_⟩=>by rw [e];rfl,λA outer s H args us vs Q E _ _ _ _ ⟨_,_,_,_,_,_,h,_⟩=>absurd h (q_ _)⟩
 | n+1=>by
  have G:aE P w K mg base n "_law_is" ["_law_answer","_law_tree_here"] (Mr K n):=⟨f,fd,K7 F T b1 m1 n,b1,F.kp,m1⟩;refine F.ok U5 (λvs H Q E h=>?_) (λeJ A outer s H vs Q E hr h=>?_)
  .obtain⟨_,_,_,rfl,_⟩:=h;rfl
  obtain⟨v,u,t,rfl,hv,hu,Ru,hsz,q⟩:=h;refine⟨_,aj (bT (PW.pt (kY (dF (aF cJ rfl T.ER j_ (ab (pv 1) (ab (gh (v:=.ty "str") rfl T.str jw rfl) ah)))) (jJ (iL (dF (aF cJ rfl T.ER j_ (ab (pv 0) (ab (gh (v:=.ty "tuple") rfl T.tup qa rfl) ah))))))))
    (ak (aQ (jM (aF cJ rfl T.ER j_ (ab (pv 0) (ab (gh (v:=.ty "str") rfl T.str jw rfl) ah))) (jL (ff iN (pv 0) (pv 1) (bV _)))))) aS)
   (aj (bT (PW.pt (kY (bw Ca (aF aK rfl T.len dI (ab (pv 0) ah)) ar (bV _)) (kY (iL (dF (aF cJ rfl T.ER j_ (ab (aP bq (pv 0) ar (λ_ _=>rfl)) (ab (gh (v:=.ty "int") rfl T.int PyProof.Rows.boot_int rfl) ah)))))
     (jJ (dF (aF cJ rfl T.ER j_ (ab (aP bq (pv 0) ar (λ_ _=>rfl)) (ab (gh (v:=.ty "bool") rfl T.boo PyProof.Rows.boot_bool rfl) ah))))))))
    (ak (aQ dU)) aS)
   (aj (bT (PW.pt (kY (iL (dF (aF cJ rfl T.ER j_ (ab (aP bq (pv 0) ar (λ_ _=>rfl)) (ab (gh (v:=.ty "tuple") rfl T.tup qa rfl) ah)))))
     (kY (bw Ca (aF aK rfl T.len dI (ab (aP bq (pv 0) ar (λ_ _=>rfl)) ah)) (aF aK rfl T.len dI (ab (aP bq (pv 1) ar (λ_ _=>rfl)) ah)) (bV _))
     (jJ (bw Ca (aP bq (pv 0) ar (λ_ _=>rfl)) (aP bq (pv 1) ar (λ_ _=>rfl)) (bV _))))))
    (ak (aQ dU)) aS)
   (ak (aQ (aF (gB rfl) rfl T.all boot_all (ab (ba ["_law_k"] [(0,"_law_answer"),(1,"_law_tree_here")] rfl (gu rfl T.CZ (ab (aF aK rfl T.len dI (ab (aP bq (pv 1) ar (λ_ _=>rfl)) ah)) ah)) (a9 rfl rfl) (by decide +kernel) rfl (by decide +kernel)
    (λ_ _ _ _ _=>ao (i:=0) (show (["_law_k","_law_answer","_law_tree_here"]:List Str).Nodup by decide +kernel) rfl (bA rfl)) (λ_ _ _ _ _=>bO)
    (λ_ _ _ _ _=>bc G hr rfl (ab (aP (jS K) (aP (jS K) (pv 1) ar (λ_ _=>rfl)) (pv 0) (λ_ _=>rfl)) (ab (aP (jS K) (aP (jS K) (pv 2) ar (λ_ _=>rfl)) (pv 0) (λ_ _=>rfl)) ah)))) ah)))))),?_⟩
  nofun
  cases t with
  | w z =>
   unfold gG at hv hu;subst hv hu;refine⟨_,rfl,.str z,"str","str",true,rfl,.str z,dX,true,rfl,?_⟩;refine g8 ?_;refine⟨_,rfl,.str z,"str","str",true,rfl,.str z,dX,true,rfl,?_⟩;refine g8 ?_;refine⟨_,rfl,_,rfl,rfl,?_⟩;rw [bM rfl];exact q H (aB.refl H)
  | n k cs =>
   have ZO:=hv;have Tp:=hu;unfold gG at hv hu;obtain⟨a1,p1,vs1,rfl,EV,IK,hc1⟩:=hv;obtain⟨a2,p2,Pr,rfl,Rz,oK,NJ⟩:=hu;have Y7:=ip.paired cs hc1;have Y6:=ip.paired cs NJ;have lc1:=a_ Y7;have lc2:=a_ Y6;have uT:1+Ks cs < n+1:=by unfold dp at Ru;exact Ru
   have hs1:1+zM cs<=100000:=by unfold sz at hsz;exact hsz
   have Tt:=VS cs.kn;rw [<-Bw] at Tt;refine⟨_,rfl,.ref a2,"tuple","str",false,rfl,.tup Rz,wR,false,rfl,?_⟩;refine dq ?_;refine⟨_,rfl,.ref a1,"tuple","tuple",true,rfl,.tup EV,dX,true,rfl,?_⟩;refine dq ?_;refine⟨_,rfl,a1,_,rfl,.inr EV,rfl,false,rfl,?_⟩;refine dq ?_;refine⟨_,rfl,a1,_,_,_,rfl,rfl,EV,rfl,.int k,"int","int",true,rfl,.int k,dX,true,rfl,?_⟩;refine dq ?_;refine⟨_,rfl,a1,_,_,_,rfl,rfl,EV,rfl,.int k,"int","bool",false,rfl,.int k,AH,false,rfl,?_⟩;refine dq ?_;refine⟨_,rfl,a1,_,_,_,rfl,rfl,EV,rfl,.ref p1,"tuple","tuple",true,rfl,.tup IK,dX,true,rfl,?_⟩;refine dq ?_;refine⟨_,rfl,a1,_,_,_,rfl,rfl,EV,rfl,p1,_,rfl,.inr IK,_,rfl,a2,_,_,_,rfl,rfl,Rz,rfl,p2,_,rfl,.inr oK,rfl,false,?_,?_⟩
   .rw [lc1,lc2];show V.bl (!decide (_=_))=_;rw [bM rfl];rfl
   refine dq ?_;refine⟨_,rfl,a1,_,_,_,rfl,rfl,EV,rfl,_,rfl,a2,_,_,_,rfl,rfl,Rz,rfl,rfl,false,?_,?_⟩
   .show V.bl (!decide (_=_))=_;rw [bM rfl];rfl
   refine dq ?_;refine⟨_,rfl,a2,_,_,_,rfl,rfl,Rz,rfl,p2,_,rfl,.inr oK,_,rfl,by omega,by omega,λD1 hD1=>?_⟩;rw [gI];refine yR (λj ys σ2 H2=>ys=(List.replicate j true).map V.bl/\(∃y0,σ2=[y0,aM a1,aM a2])/\aB H H2/\H2 D1=some (.lst ys)) ⟨rfl,⟨none,rfl⟩,af hD1 _,ae⟩ (λj ys σ2 H2 hj h=>?_) (λys σ2 H2 h=>?_)
   .obtain⟨rfl,⟨y0,rfl⟩,sm,eD⟩:=h;obtain⟨tc,N4⟩:∃tc,cs.kn[j]?=some tc:=⟨cs.kn[j]'(by omega),b9 (by omega)⟩;obtain⟨x1,e1,tv1⟩:=Paired.at_ Y7 j tc N4;obtain⟨x2,e2,OE⟩:=Paired.at_ Y6 j tc N4;have Um:lQ vs1 (0+(j:Int))=some x1:=by rw [jY];exact b_ e1
    have at2:lQ Pr (0+(j:Int))=some x2:=by rw [jY];exact b_ e2
    have jT:=bZ N4;have d1:=A7 cs tc jT;have z1:=vS cs tc jT;refine goN ?_;refine⟨_,rfl,a1,_,_,_,rfl,rfl,sm.tup EV,rfl,_,rfl,p1,_,_,_,rfl,rfl,sm.tup IK,Um,_,rfl,a2,_,_,_,rfl,rfl,sm.tup Rz,rfl,_,rfl,p2,_,_,_,rfl,rfl,sm.tup oK,at2,x1,x2,tc,rfl,gG.keep (λ_ _ z=>sm.tup z) tc tv1,gG.keep (λ_ _ z=>sm.tup z) tc OE,by omega,by omega,λH3 s3=>?_⟩;refine⟨s3 _ _ eD,bE (by rw [av,List.length_replicate];omega),?_,⟨_,rfl⟩,?_,ae⟩
    .rw [List.replicate_succ',bF];rfl
    intro b o hb;rw [ai (λz=>by rw [z,hD1] at hb;cases hb)];exact s3 _ _ (sm b o hb)
   obtain⟨rfl,_,sm,eD⟩:=h;refine⟨D1,_,rfl,aG.of eD,?_⟩;rw [show (List.replicate Pr.length true).all id=true by simp];exact q H2 sm
end
end gR
namespace L2
open PySem PySem.Spec PyProof.Rows
def yd (t:SetTable) (n:Nat):(t.orStandIn n).led=t.led:=by
 unfold SetTable.orStandIn;by_cases h:t.fits n=true
 .rw [ax h]
 rw [aw h];rfl
def AG (t:SetTable)(es:Array (Int×Value)) (h:Int)(x:Value):(layNew t es h x).2.1.led=t.led:=by
 unfold layNew;cases e:t.freeSlot h with
 | none=>rfl
 | some q =>
  obtain⟨j,b⟩:=q;show ((t.put j).1.orStandIn _).led=t.led;rw [yd];rfl
def G7 {m f k:Nat}{led pl:Bool}{hs:Array Int}{t:SetTable}{o:Array Nat}(h:SetTable.laid m f k led pl hs=some (t,o)):t.led=led/\t.plain=pl:=by
 unfold SetTable.laid at h;simp only [Option.bind_eq_bind,Option.bind_eq_some_iff] at h;obtain⟨ow,_,h2⟩:=h;cases h2;exact⟨rfl,rfl⟩
def C7 (t:SetTable)(es:Array (Int×Value)) (n:Nat):(relayAll t es n).2.1.led=t.led/\(t.plain=false->(relayAll t es n).2.1.plain=false):=by
 unfold relayAll;cases e:t.relaid (es.map (·.1)) n with
 | none=>exact⟨rfl,λ_=>rfl⟩
 | some q =>
  obtain⟨t',o⟩:=q;have h:=G7 e;dsimp only
  split
  .exact⟨h.1,λz=>h.2.trans z⟩
  exact⟨rfl,λ_=>rfl⟩
def kS:Value->Str
 | .str z _=>z
 | _ => ""
def gb (P:Program)(w:World)(h:Heap)(a:Addr)(led:Bool) (ds:List Str):Prop:=∃(o:Obj)(es:Array (Int×Value)) (ep:Nat)(t:SetTable),h.get? a=some o/\o.ExactSet/\o.data=.set es ep t/\ElemsOf (strKind P w) es.toList/\(∀e∈es.toList,∃z k,e.2=.str z k)/\(es.toList.map λe=>kS e.2).Perm ds/\t.fits es.size=true/\t.led=led/\(0 < es.size->t.plain=false)
theorem gb.size {es:Array (Int×Value)}{ds:List Str}(h:(es.toList.map λe=>kS e.2).Perm ds):es.size=ds.length:=by
 rw [<-h.length_eq,av,iF]
def gb.at {P:Program}{w:World}{h h':Heap}{a:Addr}{led:Bool}{ds:List Str}(T:gb P w h a led ds)(k:∀o,h.get? a=some o->h'.get? a=some o):gb P w h' a led ds:=by
 obtain⟨o,es,ep,t,ho,r⟩:=T;exact⟨o,es,ep,t,k _ ho,r⟩
section
variable {P:Program}{w:World}{A:Around}{E:Value->Shared->Prop}{s:Shared}
def rL {h:Heap}{a:Addr}{o:Obj}{es ij:Array (Int×Value)}{ep:Nat}{t t':SetTable}{led:Bool}{ds:List Str}(ho:h.get? a=some o)(hx:o.ExactSet)(hd:o.data=.set es ep t)(DK:ElemsOf (strKind P w) ij.toList)(mY:∀e∈ij.toList,∃z k,e.2=.str z k)(hp:(ij.toList.map λe=>kS e.2).Perm ds)(hf:t'.fits ij.size=true)(hl:t'.led=led)(uR:t'.plain=false) :
  (h.update a (Obj.putSet ij t')).get? a=some { o with data:=.set ij (ep+1) t' }/\gb P w (h.update a (Obj.putSet ij t')) a led ds:=by
 have g:(h.update a (Obj.putSet ij t')).get? a=some { o with data:=.set ij (ep+1) t' }:=by
  have q:=qQ (Obj.putSet ij t') ho (by rw [putSet_of ij t' hd];rfl);rw [putSet_of ij t' hd] at q;exact q
 exact⟨g,_,ij,ep+1,t',g,hx,rfl,DK,mY,hp,hf,hl,λ_=>uR⟩
def yZ {g:Bool->Sem Unit}(hg:∀(b:Bool)(s₁:Shared)(Q':Unit->Shared->Prop),Q' () s₁->wpAny (model P w) A (g b) Q' E s₁){a:Addr}{o:Obj}{es pO:Array (Int×Value)}{ep:Nat}{t t2:SetTable}{led wd:Bool}{ds:List Str}{R:Option Bool->Shared->Prop}
  (ho:s.heap.get? a=some o)(hx:o.ExactSet)(hd:o.data=.set es ep t)(Hs:ElemsOf (strKind P w) pO.toList)(Hi:∀e∈pO.toList,∃z k,e.2=.str z k)(IK:(pO.toList.map λe=>kS e.2).Perm ds)(IP:pO.size < scanBound)(f2:t2.fits pO.size=true)(l2:t2.led=led)(p2:t2.plain=false)
  (q:∀h',Heap.SameBut a s.heap h'->gb P w h' a led ds->R (some true) { s with heap:=h' }) :
  wpAny (model P w) A (storeSet a pO t2 >>= λ_=>if (!wd && t2.tooFull)=true then g (relayAll t2 pO (SetTable.grown pO.size)).2.2 >>= λ_=>storeSet a (relayAll t2 pO (SetTable.grown pO.size)).1 (relayAll t2 pO (SetTable.grown pO.size)).2.1 >>= λ_=>pure (some true) else pure (some true)) R E s:=by
 refine aq (wpAny_storeSet_of ho hd ?_ (fits_of_scanBound IP));obtain⟨ES,T1⟩:=rL (P:=P) (w:=w) ho hx hd Hs Hi IK f2 l2 p2;have YT:=mC s.heap a (Obj.putSet pO t2)
 split
 .have rp:=relayAll_perm t2 pO (SetTable.grown pO.size);have rf:=relayAll_fits t2 pO (SetTable.grown pO.size);have rl:=C7 t2 pO (SetTable.grown pO.size);generalize relayAll t2 pO (SetTable.grown pO.size)=Rl at rp rf rl ⊢;obtain⟨es2,t3,g2⟩:=Rl;dsimp only at rp rf rl ⊢;have sz2:es2.size=pO.size:=by rw [<-iF,rp.length_eq,iF]
  refine aq (hg _ _ _ ?_);refine aq (wpAny_storeSet_of ES rfl ?_ (fits_of_scanBound (by omega)));obtain⟨_,T2⟩:=rL (P:=P) (w:=w) (led:=led) (ds:=ds) ES hx rfl (Hs.perm rp) (λe he=>Hi e (rp.mem_iff.mp he)) ((rp.map λe=>kS e.2).trans IK) rf (rl.1.trans l2) (rl.2 p2);exact aH (q _ (YT.trans (mC _ a _)) T2)
 exact aH (q _ YT T1)
def KC {a:Addr}{led:Bool}{ds:List Str}{z:Str}{k:Tok}{Q:Bool->Shared->Prop}(T:gb P w s.heap a led ds)(hb:ds.length+1 < scanBound)
  (q:∀(b:Bool)(h':Heap),Heap.SameBut a s.heap h'->gb P w h' a led (if z∈ds then ds else ds++[z])->Q b { s with heap:=h' }):wpAny (model P w) A (setAddHashed a (.str z k) ((strKind P w).hash z)) Q E s:=by
 obtain⟨o,es,ep,t,ho,hx,hd,DK,mY,hp,hf,hl,uR⟩:=T;have hsz:=gb.size hp;have Kb:=strKind_is P w z k;have Ww:(Value.str z k).scannable=true:=rfl;unfold setAddHashed setAddHashedIn;refine iV (aq (oX ho hd hf ?_));dsimp only;rw [byScan_of Ww (by omega) DK];simp only [↓reduceIte];unfold setAddByScan;refine aq (aq (ik (aq (wpAny_setScan_of Kb ho hd hf DK ?_))));have mem:∀e∈es.toList,(strKind P w).is z e.2=true↔kS e.2=z:=λe he=>by
  obtain⟨z',k',e2⟩:=mY e he;rw [e2];show Value.isStrOf z (.str z' k')=true↔z'=z;simp [Value.isStrOf]
 cases hr:List.findIdx? (λe=>(strKind P w).is z e.2) es.toList with
 | some j =>
  dsimp only;obtain⟨hj,hpj,_⟩:=List.findIdx?_eq_some_iff_getElem.mp hr;have zi:z∈ds:=hp.mem_iff.mp (cx.mpr ⟨_,pW hj,(mem _ (pW hj)).mp hpj⟩);refine aH (aH ?_);have e:s={ s with heap:=s.heap }:=by cases s;rfl
  have:=q false s.heap (Heap.SameBut.refl a s.heap) (by rw [ax zi];exact⟨o,es,ep,t,ho,hx,hd,DK,mY,hp,hf,hl,uR⟩);rw [e];exact this
 | none =>
  dsimp only;have zn:z∉ds:=λzi=>by
   obtain⟨e,he,e2⟩:=cx.mp (hp.mem_iff.mpr zi);have:=List.findIdx?_eq_none_iff.mp hr e he;rw [(mem e he).mpr e2] at this;cases this
  rw [aw zn] at q;have uh:=layNew_perm t es ((strKind P w).hash z) (.str z k);have TH:=layNew_fits t es ((strKind P w).hash z) (.str z k);have TB:=AG t es ((strKind P w).hash z) (.str z k);generalize layNew t es ((strKind P w).hash z) (.str z k)=L at uh TH TB ⊢;obtain⟨pO,t1,wd,gv⟩:=L;dsimp only at uh TH TB ⊢;rw [Array.toList_push] at uh;have Hs:ElemsOf (strKind P w) pO.toList:=(DK.push Kb Ww).perm uh;have Hi:∀e∈pO.toList,∃z k,e.2=.str z k:=λe he=>by
   rcases cg.mp (uh.mem_iff.mp he) with h | h
   .exact mY e h
   rw [bB.mp h];exact⟨z,k,rfl⟩
  have IK:(pO.toList.map λe=>kS e.2).Perm (ds++[z]):=by
   have h1:=uh.map λe=>kS e.2;rw [bF] at h1;exact h1.trans (hp.append_right _)
  have Wm:=gb.size IK;rw [bp,d8] at Wm;have gw:∀(b:Bool){s₁:Shared}{Q':Unit->Shared->Prop},Q' () s₁->wpAny (model P w) A (match b with | true=>rule "set.scan.the-table-gave-way" | false=>pure ()) Q' E s₁:=λb s₁ Q' hq=>by cases b <;> first | exact aH hq | exact ik hq
  refine aq (gw _ ?_);have fin:∀h',Heap.SameBut a s.heap h'->gb P w h' a led (ds++[z])->Q true { s with heap:=h' }:=λh' b t=>q true h' b t;have IP:pO.size < scanBound:=by omega
  split
  .refine aq ?_;rw [hashByValue_scannable 8 Ww];refine aH ?_;refine yZ ?_ ho hx hd Hs Hi IK IP (SetTable.fits_plain_off TH) (TB.trans hl) rfl ?_
   .intro b s₁ Q' hq;cases b <;> first | exact aH hq | exact ik hq
   intro h' J2 EW;dsimp only;exact aH (fin h' J2 EW)
  rename_i np
  refine aq (aH ?_);simp only [↓reduceIte];refine yZ ?_ ho hx hd Hs Hi IK IP TH (TB.trans hl) (by simpa using np) ?_
  .intro b s₁ Q' hq;cases b <;> first | exact aH hq | exact ik hq
  intro h' J2 EW;dsimp only;exact aH (fin h' J2 EW)
end
def il (val:Nat->Str):Nat->List Str
 | 0=>[]
 | i+1=>if val i∈il val i then il val i else il val i++[val i]
theorem sG (val:Nat->Str):∀i,(il val i).length<=i
 | 0=>aD _
 | i+1=>by
  have:=sG val i;show (if val i∈il val i then il val i else il val i++[val i]).length<=i+1
  split
  .omega
  rw [bp,d8];omega
section
variable {P:Program}{w:World}{A:Around}{R:Result->Shared->Prop}{I:Addr}{fp wr:List Addr}{G:Array GenState->Array GenState->Prop}{n:Nat}{Pv:Nat->Value->Prop}{St:Nat->Shared->Prop}
def G1 (W:WalksS P w A.in1 I fp wr G n Pv St)(S:Addr)(TR:S∉fp)(val:Nat->Str)(Wk:∀i v,Pv i v->∃t,v=.str (val i) t)(hb:n+1 < scanBound)(led:Bool) :
  ∀(k i:Nat)(s:Shared),n - i=k->i<=n->St i s->gb P w s.heap S led (il val i) ->
   (∀s',Moved (S::wr) G s s'->gb P w s'.heap S led (il val n)->R (.ok (.ret .none)) s') ->
   codeAny (model P w) A (.builtin "set.update.loop" ⟨[.ref S,.ref I],[]⟩) R s:=by
 have Z8:S∉wr:=λh=>TR (W.sub _ h);have sub:∀b∈wr,b∈S::wr:=λb hb=>cV _ hb;intro k
 induction k with
 | zero =>
  intro i s hk hi mY hS hR;obtain rfl:i=n:=by omega
  refine kK F.entry_set_update_loop ?_;rw [lV F.plain_set_update_loop _];show wpAny _ A.in1 (pyNext (.ref I) >>= _) _ _ s;refine aq (W.done s _ _ mY λs' hm=>?_);show wpAny _ A.in1 (ret Value.none) _ _ s';exact aH (hR s' (hm.mono sub) (hS.at λo e=>hm.heap S _ Z8 e))
 | succ k ih =>
  intro i s hk hi mY hS hR;have jd:i < n:=by omega
  refine kK F.entry_set_update_loop ?_;rw [lV F.plain_set_update_loop _];show wpAny _ A.in1 (pyNext (.ref I) >>= _) _ _ s;refine aq (W.item i s _ _ jd mY λv s' hP Wn hm=>?_);obtain⟨t,rfl⟩:=Wk i v hP;have EW:gb P w s'.heap S led (il val i):=hS.at λo e=>hm.heap S _ Z8 e;show wpAny _ A.in1 (holding [Value.str (val i) t] (setAdd S (.str (val i) t)) >>= _) _ _ s';refine aq (iV ?_);unfold setAdd;refine iV ?_;refine aq ((strKind P w).pyHash (k:=val i) (strKind_is _ _ _ _) ?_);have room:(il val i).length+1 < scanBound:=by have:=sG val i;omega
  refine KC (s:={ s' with toks:=s'.toks+1 }) EW room λb h' J2 DO=>?_;refine aH ⟨i8 F.plain_set_update_loop _,ih (i+1) _ (by omega) jd (W.frame _ s' _ _ Wn (i6 _) λb hb o e=>?_) DO λMI WK W5=>?_⟩
  .rw [J2.2 b (λh:b=S=>TR (by rw [<-h];exact hb))];exact e
  refine hR MI (Moved.trans W.gtrans ((hm.mono sub).then_heap (i6 _) λb o hb e=>?_) WK) W5;rw [J2.2 b (λh:b=S=>hb (by rw [h];exact cI))];exact e
end
section
variable {P:Program}{w:World}{A:Around}{E:Value->Shared->Prop}{s:Shared}
abbrev yt (w:World):Bool:=!(w.params.followText "set-order")
def Fq (a:Value){Q₁:Value->Shared->Prop}(h:Q₁ (.ref s.heap.objs.size) { s with heap:=s.heap.push { cls:=.type "set",dict:=none,data:=.set #[] 0 (.fresh 0 0 (yt w)) } }) :
  codeAny (model P w) A (.call (.builtin "set.__new__") ⟨[.type "set",a],[]⟩) (wants Q₁ E) s:=by
 refine codeAny_of_tree ?_;show wpAny _ A.in1 (do checkBuiltinCall "set.__new__" ⟨[.type "set",a],[]⟩;again (.builtin "set.__new__" ⟨[.type "set",a],[]⟩)) _ _ s;refine aq (wpAny_of_eq (F.newCall_set_1 a) (aH ⟨i8 F.plain_set_new _,kK F.entry_set_new ?_⟩));rw [lV F.plain_set_new _];unfold Builtin.«set.__new__» Builtin.Frozenset.newClass;have Q5:=sub_set_self;obtain⟨hp,g,d,tk,os⟩:=s;dsimp only
 wp_walk
 refine oU (aH ?_);dsimp only;simp only [newObj];refine aq (wpAny_alloc (aH ?_));exact aH h
def xF {h:Heap}{a:Addr}{led:Bool}(e:h.get? a=some { cls:=.type "set",dict:=none,data:=.set #[] 0 (.fresh 0 0 led) }):gb P w h a led [] :=
 ⟨_,#[],0,_,e,⟨rfl,rfl,rfl⟩,rfl,λe he=>by simp at he,λe he=>by simp at he,by simp,rfl,rfl,λz=>absurd z (jB 0)⟩
abbrev JV (w:World):Obj:={ cls:=.type "set",dict:=none,data:=.set #[] 0 (.fresh 0 0 (yt w)) }
def v7 {l S:Addr}{items:Array Value}{val:Nat->Str}{h0:Heap}{Q:Value->Shared->Prop}(hh:A.handled=none)(hs:s.heap=h0.push (JV w))(hS:S=h0.objs.size)(hl:h0.IsList l items)(hi:∀i v,items[i]?=some v->∃t,v=Value.str (val i) t)(hb:items.size+1 < scanBound)
  (q:∀(h':Heap) (tk:Nat),gb P w h' S (yt w) (il val items.size)->(∀b o,b < h0.objs.size->h0.get? b=some o->h'.get? b=some o)->Q .none { s with heap:=h',toks:=tk }) :
  codeAny (model P w) A (.call (.builtin "set.__init__") ⟨[.ref S,.ref l],[]⟩) (wants Q E) s:=by
 have gS:s.heap.get? S=some (JV w):=by rw [hs,hS];exact cy _ rfl
 have tS:s.TypeIs (.ref S) "set" := ⟨_,gS,rfl⟩;refine jz (vy (R:=wants Q E) kO.init.plain F.entry_set_init (check_set_init_1 tS ?_)) λr s2 h=>h;obtain⟨ol,OS,mZ,nl,Lr⟩:=hl;obtain⟨oc,od,oda,wG⟩:=ol;simp only at mZ Lr;subst mZ;subst Lr;have ZW:l < h0.objs.size:=bu OS;have WD:s.heap.get? l=some { cls:=.type "list",dict:=od,data:=.seq items nl,slots:=wG }:=by rw [hs];exact bG _ OS
 have n1:=F.sub_list_set;have n2:=F.sub_list_frozenset;have n3:(Value.type "list" == Value.type "dict")=false:=by decide
 have Rj:s.heap.IsList l items:=⟨_,WD,rfl,nl,rfl⟩;unfold Builtin.«set.__init__» noKeywords Builtin.Frozenset.updateFrom;generalize hPI:pyIter=PI
 wp_walk
 subst hPI;refine mw Rj ?_;refine aq (wpAny_runValue ?_);have h3:A.in1.in1.handled=none:=by simp [hh]
 have sz:s.heap.objs.size=h0.objs.size+1:=by rw [hs,j5]
 have nI:l≠s.heap.objs.size:=by rw [sz];exact bD (pX ZW)
 have TR:S∉[s.heap.objs.size,l]:=by
  rw [sz,hS];simp only [bX,bB,rj,or_false,not_or];exact⟨bD (j7 _),jZ ZW⟩
 refine G1 ((Walks.list h3 _ l nI items).toS) S TR val hi hb (yt w) (items.size - 0) 0 _ (by omega) (fh _) ?mY ?hS0 ?hR
 case mY=>exact⟨⟨_,cy _ rfl,rfl,rfl⟩,Rj.push _⟩
 case hS0=>exact xF (bG _ gS)
 intro s' hm EW;obtain⟨h',g',d',UO,Qi⟩:=s';have eg:g'=s.gens:=hm.gens;have ed:d'=s.drawn:=hm.drawn;have eo:Qi=s.os:=hm.os;subst eg;subst ed;subst eo;show wpAny _ _ _ _ _ _;refine aH ?_;show wpAny _ _ (ret Value.none) _ _ _;refine aH (q h' UO EW λb o hb e=>?_);refine hm.heap b o ?_ (bG _ (show s.heap.get? b=some o by rw [hs];exact bG _ e));rw [sz,hS];simp only [bX,bB,rj,or_false,not_or];exact⟨bD hb,bD (pX hb)⟩
def xg {l:Addr}{items:Array Value}{val:Nat->Str}{Q:Value->Shared->Prop}(hh:A.handled=none)(hl:s.heap.IsList l items)(hi:∀i v,items[i]?=some v->∃t,v=Value.str (val i) t)(hb:items.size+1 < scanBound)
  (q:∀(h':Heap) (tk:Nat),gb P w h' s.heap.objs.size (yt w) (il val items.size)->(∀b o,b < s.heap.objs.size->s.heap.get? b=some o->h'.get? b=some o)->Q (.ref s.heap.objs.size) { s with heap:=h',toks:=tk }) :
  wpAny (model P w) A (call (.type "set") [.ref l]) Q E s:=by
 obtain⟨c,tl,aal⟩:=kO.mro;have ZU:=kO.made;have Q5:=kO.sub;refine kN (codeAny_of_tree ?_);show wpAny _ _ (callAny (.type "set") _) _ _ _;refine aH ⟨Code.quiet_builtin _ (by decide +kernel),kK F.entry_type_call ?_⟩;rw [Around.under_plain (weight_type_call_type "set" [.ref l] []) rfl];have h1:=kO.notType;have h2:=kO.canCreate;have hct:=F.typeCall_set_1 (.ref l)
 repeat (any_goals (first | assumption | wp_step))
 refine jz (Fq (.ref l) (E:=E) (Q₁:=λv s1=>v=.ref s.heap.objs.size/\s1={ s with heap:=s.heap.push (JV w) }) ⟨rfl,rfl⟩) λr s1 hr=>?_;cases r with
 | error e=>exact hr
 | ok fl =>
  cases fl with
  | ret obj =>
   obtain⟨rfl,rfl⟩:=hr;have hT:Shared.TypeIs { s with heap:=s.heap.push (JV w) } (.ref s.heap.objs.size) "set" := ⟨_,cy _ rfl,rfl⟩;have hli:=kO.init.lookup;have hbi:=kO.init.bind (.ref s.heap.objs.size)
   repeat (any_goals (first | assumption | wp_step))
   refine jz (v7 (h0:=s.heap) (Q:=λv s2=>v=.none/\∃h' tk,s2={ s with heap:=h',toks:=tk }/\gb P w h' s.heap.objs.size (yt w) (il val items.size)/\∀b o,b < s.heap.objs.size->s.heap.get? b=some o->h'.get? b=some o) (E:=E) ?_ rfl rfl hl hi hb λh' tk a b=>⟨rfl,h',tk,rfl,a,b⟩) λr2 s2 Lq=>?_
   .simp [hh]
   cases r2 with
   | error e=>exact Lq
   | ok fl2 =>
    cases fl2 with
    | ret r =>
     obtain⟨rfl,h',tk,rfl,EW,hk'⟩:=Lq
     repeat (any_goals (first | assumption | wp_step))
     exact q _ _ EW hk'
    | _=>exact Lq.elim
  | _=>exact hr.elim
end
def xV (n:String)(id:String)(nm:Str)(hl:typeLookup (.type "set_iterator") nm=pure (some (.builtin id)))(hs:splitId id=some ("set_iterator",n))(h1:withoutEnding? id "#opaque"=none)(h2:withoutEnding? id "#data"=none)(h3:(Manifest.find? "set_iterator").bind (·.attrs.lookup n)=some .slot)(h4:plainId id=true):Slot "set_iterator" nm id :=
 .of hl hs h1 h2 (.inl h3) (by rw [isSubtype_type];kernel_rfl) h4
def dM:Slot "set_iterator" "__next__" "set_iterator.__next__" := xV "__next__" _ _ (by rw [typeLookup_type,vF];kernel_rfl) (by decide +kernel) (by decide +kernel) (by decide +kernel) (by decide +kernel) (by decide +kernel)
def lG:entryFor table "set_iterator.__next__"=some Builtin.«set_iterator.__next__»:=entryFor_of_fast (by kernel_rfl)
def w6:entryFor table "set.__iter__"=some Builtin.«frozenset.__iter__»:=entryFor_alias (id' := "frozenset.__iter__") (by kernel_rfl) rfl (by decide +kernel) (by kernel_rfl)
def me (a:Value):argsOk "set_iterator.__next__" ⟨[a],[]⟩:=by unfold argsOk;kernel_rfl
theorem mT {α:Type}:∀(l:List α) (i:Nat)(x:α),l[i]?=some x->(x::l.eraseIdx i).Perm l
 | [],i,x,h=>by cases h
 | a::r,0,x,h=>by cases h;exact List.Perm.refl _
 | a::r,i+1,x,h=>by
  have ih:=mT r i x h;show (x::a::r.eraseIdx i).Perm (a::r);exact(List.Perm.swap a x _).trans (ih.cons a)
theorem B6 {α:Type}(next:Nat->Nat):∀(f k:Nat)(left:List α)(out:Array α),left.length=f->(pickOrder.go next f k left out).toList.Perm (out.toList++left)
 | 0,k,left,out,h=>by
  rw [rG.mp h,ir];exact List.Perm.refl _
 | f+1,k,left,out,h=>by
  have lt:next k % left.length < left.length:=Nat.mod_lt _ (by omega);have e:left[next k % left.length]?=some (left[next k % left.length]):=b9 lt;unfold pickOrder.go;rw [e];have ih:=B6 next f (k+1) (left.eraseIdx (next k % left.length)) (out.push left[next k % left.length]) (by rw [List.length_eraseIdx];rw [ax lt];omega);refine ih.trans ?_;rw [Array.toList_push,lU];exact(mT _ _ _ e).append_left _
def uH {α:Type}(next:Nat->Nat)(xs:Array α):(pickOrder next xs).toList.Perm xs.toList:=by
 have:=B6 next xs.size 0 xs.toList #[] iF;exact this
section
variable {M:Model}{A:Around}{E:Value->Shared->Prop}
def Ma {s:Shared}{src:Source}{n:Nat}{Q:Nat->Shared->Prop}(h0:n≠0)(h:∀j d,j < n->Q j { s with drawn:=d }):wpAny M A (choose src n) Q E s:=λ_ _ _=>⟨h0,h _ _ (Nat.mod_lt _ (Nat.pos_of_ne_zero h0))⟩
theorem Bq {α:Type}:∀(n:Nat)(xs:List α)(s:Shared)(Q:List α->Shared->Prop),xs.length=n->(∀ys d,ys.Perm xs->Q ys { s with drawn:=d })->wpAny M A (drawOrder n xs) Q E s
 | 0,xs,s,Q,h,q=>by
  rw [rG.mp h] at q ⊢;unfold drawOrder;exact aH (q [] s.drawn (List.Perm.refl _))
 | n+1,[],s,Q,h,q=>by cases h
 | n+1,a::r,s,Q,h,q=>by
  unfold drawOrder;refine aq (Ma (by rw [h];exact Nat.succ_ne_zero _) λj d lj=>?_);have e:(a::r)[j]?=some ((a::r)[j]):=b9 lj;rw [e];refine aq (Bq n ((a::r).eraseIdx j) _ _ (by rw [List.length_eraseIdx,ax lj];omega) λys d2 p=>?_);exact aH (q _ d2 ((p.cons _).trans (mT _ _ _ e)))
end
def mh (h:Heap)(I S:Addr)(fst:Value) (i n ep:Nat):Prop:=∃o,h.get? I=some o/\o.cls=.type "set_iterator" /\ o.data=.fields #[fst,.int i 0,.ref S,.int n 0,.int ep 0]
abbrev Ex (w:World):Bool:=w.params.followText "set-order"
def qr (w:World)(h:Heap)(S:Addr)(es:Array (Int×Value)) (ep:Nat)(t:SetTable)(vals:List Value)(fst:Value) (i:Nat):Prop :=
 (Ex w=true/\fst=.int 0 0/\vals=(pickOrder (w.params.setOrder S ep) es).toList.map (·.2)) \/
 (Ex w=false/\∃(Pt:Addr)(ps:List Nat)(o:Obj) (n:Nat),fst=.ref Pt/\h.get? Pt=some o/\o.data=.seq (ps.map λp:Nat=>Value.int p 0).toArray n/\ps.Perm (List.range es.size)/\vals=ps.map λp=>(es.toList.getD p (0,.none)).2) \/
 (Ex w=false/\es.size<=1/\(!t.plain && decide (1 < es.size))=false/\(!t.led && !es.isEmpty)=false/\∃k:Nat,fst=.int k 0/\vals=es.toList.map (·.2)/\(i=0->k=0)/\(i=1->∃j,t.place[0]?=some j/\k=j+1))
def range_getD (l:List (Int×Value)):((List.range l.length).map λp=>(l.getD p (0,Value.none)).2)=l.map (·.2):=by
 refine List.ext_getElem (by simp) λi h1 h2=>?_;simp at h1 h2;simp [nr,h1]
def qr.perm {w:World}{h:Heap}{S:Addr}{es:Array (Int×Value)}{ep:Nat}{t:SetTable}{vals:List Value}{fst:Value}{i:Nat}(m:qr w h S es ep t vals fst i):vals.Perm (es.toList.map (·.2)):=by
 rcases m with ⟨_,_,rfl⟩ | ⟨_,Pt,ps,o,n,_,_,_,p,rfl⟩ | ⟨_,_,_,_,k,_,rfl,_⟩
 .exact(uH _ _).map _
 .have:=p.map λp=>(es.toList.getD p (0,Value.none)).2;rw [<-iF,range_getD] at this;exact this
 exact List.Perm.refl _
section
variable {P:Program}{w:World}{A:Around}{E:Value->Shared->Prop}{s:Shared}
def He {S:Addr}{o:Obj}{es:Array (Int×Value)}{ep:Nat}{t:SetTable}{Q:Value->Shared->Prop}(ho:s.heap.get? S=some o)(hx:o.ExactSet)(hd:o.data=.set es ep t)(hf:t.fits es.size=true)(hl:t.led=!Ex w)(hp:0 < es.size->t.plain=false)(hb:es.size < scanBound)
  (q:∀(I:Addr)(h':Heap)(d:Drawn)(vals:List Value)(fst:Value),(∀b o,s.heap.get? b=some o->h'.get? b=some o)->s.heap.objs.size<=I->mh h' I S fst 0 es.size ep->qr w h' S es ep t vals fst 0->(∀Pt,fst=.ref Pt->Pt≠I/\s.heap.objs.size<=Pt)->Q (.ref I) { s with heap:=h',drawn:=d }) :
  wpAny (model P w) A (pyIter (.ref S)) Q E s:=by
 have tS:s.TypeIs (.ref S) "set" := ⟨o,ho,hx.1⟩;refine wpAny_pyIter_slot tS F.slot_set_iter (j6 F.slot_set_iter tS w6 ?_ (F.args_set_iter_1 _));show wpAny _ _ (Builtin.Frozenset.sizeOf S >>= _) _ _ s;refine aq ?_;unfold Builtin.Frozenset.sizeOf;refine aq (wpAny_setEntries_of ho hd hf (aH ?_));show wpAny _ _ (setDrawn S >>= _) _ _ s;refine aq ?_;unfold setDrawn setsByText;refine aq (oX ho hd hf ?_);dsimp only;refine aq (aq (oU (aH ?_)));refine aH ?_;show wpAny _ _ (if (!Ex w && (!t.plain && decide (es.size > 1)))=true then _ else _) _ _ s;by_cases c:(!Ex w && (!t.plain && decide (es.size > 1)))=true
 .rw [ax c];obtain⟨c1,c2⟩:=fj.mp c;have nb:Ex w=false:=by simpa using c1
  refine aq (Bq es.size (List.range es.size) s _ mx λys d p=>?_);refine aq ?_;simp only [newTuple];refine gH ?_ ?_
  rotate_left
  .have l1:=p.length_eq;rw [mx] at l1;have:=fits_of_scanBound hb;show ((List.map (λi:Nat=>rawInt (i:Int)) ys).toArray).size<=sizeLine;rw [bN,av];omega
  refine aq (wpAny_setEpoch_of (bG _ ho) hd hf ?_);refine aq (gH (aH ⟨_,rfl,"set_iterator",_,⟨_,cy _ rfl,rfl⟩,dM.lookup,?_⟩));refine q _ _ d (ys.map λp=>(es.toList.getD p (0,.none)).2) _ (λb o e=>bG _ (bG _ e)) ?_ ⟨_,cy _ rfl,rfl,rfl⟩ (.inr (.inl ⟨nb,s.heap.objs.size,ys,_,_,rfl,bG _ (cy _ rfl),rfl,p,rfl⟩)) λPt e=>?_
  .rw [j5];exact i6 _
  cases e;rw [j5];exact⟨bD (j7 _),aD _⟩
 rw [aw c];refine aq (aH ?_);refine aq (wpAny_setEpoch_of ho hd hf ?_);refine aq (gH (aH ⟨_,rfl,"set_iterator",_,⟨_,cy _ rfl,rfl⟩,dM.lookup,?_⟩));have go:∀vals,qr w (s.heap.push { cls:=.type "set_iterator",data:=.fields [rawInt 0,rawInt 0,Value.ref S,rawInt es.size,rawInt ep].toArray }) S es ep t vals (.int 0 0) 0->Q (.ref s.heap.objs.size) { s with heap:=s.heap.push { cls:=.type "set_iterator",data:=.fields [rawInt 0,rawInt 0,Value.ref S,rawInt es.size,rawInt ep].toArray } }:=λvals m =>
  q _ _ s.drawn vals _ (λb o e=>bG _ e) (aD _) ⟨_,cy _ rfl,rfl,rfl⟩ m λPt e=>by cases e
 cases TM:Ex w with
 | true=>exact go _ (.inl ⟨TM,rfl,rfl⟩)
 | false =>
  rw [TM] at c;have c3:¬(!t.plain && decide (es.size > 1))=true:=by simpa using c
  have Te:es.size<=1:=by
   by_cases z:0 < es.size
   .rw [hp z] at c3;simp at c3;omega
   omega
  refine go _ (.inr (.inr ⟨TM,Te,by simpa using c3,?_,0,rfl,rfl,λ_=>rfl,λz=>by cases z⟩));rw [hl,TM];rfl
def BU {S:Addr}{o:Obj}{es:Array (Int×Value)}{ep:Nat}{t:SetTable}{R:Option (Value×Nat)->Shared->Prop}(ho:s.heap.get? S=some o)(hd:o.data=.set es ep t)(hf:t.fits es.size=true)(bt:Ex w=true) (k i:Nat)(q:R (((pickOrder (w.params.setOrder S ep) es)[i]?).map λe=>(e.2,k)) s):wpAny (model P w) A (setNext S k i ep) R E s:=by
 unfold setNext setsByText;refine aq (oX ho hd hf ?_);dsimp only;refine aq (aq (oU (aH ?_)));show wpAny _ _ (if Ex w=true then _ else _) _ _ s;rw [ax bt,show (ep != ep)=false by simp,aw cZ];unfold setWalk setsByText;refine aq (aq (oX ho hd hf ?_));dsimp only;refine aq (aq (oU (aH ?_)));show wpAny _ _ (if Ex w=true then _ else _) _ _ s;rw [ax bt];exact aq (oU (aH (aH q)))
def xU {S:Addr}{o:Obj}{es:Array (Int×Value)}{ep:Nat}{t:SetTable}{R:Option (Value×Nat)->Shared->Prop}(ho:s.heap.get? S=some o)(hd:o.data=.set es ep t)(hf:t.fits es.size=true)(bt:Ex w=false)(dr:(!t.plain && decide (1 < es.size))=false)(ld:(!t.led && !es.isEmpty)=false) (k i:Nat)
  (q:R (match es[SetTable.below t.place k]?,t.place[SetTable.below t.place k]? with | some (_,x),some j=>some (x,j+1) | _,_=>none) s):wpAny (model P w) A (setNext S k i ep) R E s:=by
 unfold setNext setsByText;refine aq (oX ho hd hf ?_);dsimp only;refine aq (aq (oU (aH ?_)));show wpAny _ _ (if Ex w=true then _ else if (!t.plain && decide (es.size > 1))=true then _ else _) _ _ s;rw [bt,aw cZ,show (!t.plain && decide (es.size > 1))=false from dr,aw cZ];refine aq ?_;show wpAny _ _ (if (!t.led && !es.isEmpty)=true then _ else _) _ _ s;rw [ld,aw cZ];exact aH (aH q)
def rW {I S:Addr}{fst:Value}{i n ep:Nat}{Q:Unit->Shared->Prop}(hit:mh s.heap I S fst i n ep)(x:Value)(q:∀h',Heap.SameBut I s.heap h'->mh h' I S x i n ep->Q () { s with heap:=h' }):wpAny (model P w) A (setField (.ref I) 0 x) Q E s:=by
 obtain⟨o,ho,hc,hd⟩:=hit;refine qV ho hd (by simp) (q _ (mC ..) ⟨_,qQ _ ho (Obj.isFreed_of_fields (o5 hd _)),(Obj.cls_mapFields ..).trans hc,?_⟩);rw [o5 hd];simp
def rV {I S:Addr}{fst:Value}{i n ep:Nat}{Q:Unit->Shared->Prop}(hit:mh s.heap I S fst i n ep)(q:∀h',Heap.SameBut I s.heap h'->mh h' I S fst (i+1) n ep->Q () { s with heap:=h' }):wpAny (model P w) A (setField (.ref I) 1 (rawInt ((i:Int)+1))) Q E s:=by
 obtain⟨o,ho,hc,hd⟩:=hit;refine qV ho hd (by simp) (q _ (mC ..) ⟨_,qQ _ ho (Obj.isFreed_of_fields (o5 hd _)),(Obj.cls_mapFields ..).trans hc,?_⟩);rw [o5 hd];simp [rawInt]
def vf (j k:Nat):SetTable.below #[j] k=if j < k then 1 else 0:=by
 unfold SetTable.below;show SetTable.below.go #[j] k 1 0 1=_;unfold SetTable.below.go;simp;by_cases c:j < k
 .rw [ax c,ax c];rfl
 rw [aw c,aw c];rfl
def GX {S I:Addr}{o:Obj}{es:Array (Int×Value)}{ep i:Nat}{t:SetTable}{vals:List Value}{fst v:Value}{Q:Option Value->Shared->Prop}(hit:mh s.heap I S fst i es.size ep)(ho:s.heap.get? S=some o)(hd:o.data=.set es ep t)(hf:t.fits es.size=true)(m:qr w s.heap S es ep t vals fst i)(nI:∀Pt,fst=.ref Pt->Pt≠I)(hv:vals[i]?=some v)
  (q:∀(h':Heap)(HH:Value),Heap.SameBut I s.heap h'->mh h' I S HH (i+1) es.size ep->qr w h' S es ep t vals HH (i+1)->(∀Pt,HH=.ref Pt->fst=.ref Pt)->Q (some v) { s with heap:=h' }) :
  wpAny (model P w) A (pyNext (.ref I)) Q E s:=by
 obtain⟨oi,Nw,Rx,WX⟩:=id hit;have tI:s.TypeIs (.ref I) "set_iterator" := ⟨oi,Nw,Rx⟩;unfold pyNext;refine aq (oN (nq (name:=Str.ofString "__next__") tI dM (j6 dM tI lG ?_ (me _))));show wpAny _ _ (fieldsOf (.ref I) >>= _) _ _ s;refine aq (wpAny_fieldsOf Nw WX ?_);show wpAny _ _ (setEntries S >>= _) _ _ s;refine aq (wpAny_setEntries_of ho hd hf ?_);have ne:((es.size:Int) != (es.size:Int))=false:=by simp
 dsimp only;rw [ne];rw [aw cZ];rcases m with ⟨bt,rfl,Hg⟩ | ⟨bt,Pt,ps,po,pn,rfl,OR,Tu,pp,Hg⟩ | ⟨bt,Te,dr,ld,k,rfl,Hg,k0,k1⟩
 .dsimp only;simp only [gI];rw [Hg,bo] at hv;obtain⟨e,ee,ev⟩:=cf.mp hv;refine aq (BU ho hd hf bt _ _ ?_);rw [<-qT,ee];refine aq (rW hit _ λh1 b1 i1=>aq (rV (s:={ s with heap:=h1 }) i1 λh2 b2 i2=>aH ⟨_,rfl,aH ?_⟩));show Q (some e.2) { s with heap:=h2 };rw [show e.2=v from ev];exact q h2 _ (b1.trans b2) i2 (.inl ⟨bt,rfl,Hg⟩) λPt z=>by cases z
 .dsimp only;simp only [gI];refine aq (mq OR Tu ?_);dsimp only;have ZO:=hv;rw [Hg,bo] at hv;obtain⟨p,LA,ev⟩:=cf.mp hv;have lp:p < es.size:=jC.mp (pp.mem_iff.mp (bZ LA));have e1:((ps.map λp:Nat=>Value.int p 0).toArray)[i]?=some (Value.int p 0):=by
   rw [List.getElem?_toArray,bo,LA];rfl
  rw [e1];dsimp only;refine aq ?_;unfold setNextDrawn;simp only [gI];refine aq (oX ho hd hf ?_);dsimp only;rw [show (ep != ep)=false by simp,aw cZ];have e2:es[p]?=some es[p]:=Array.getElem?_eq_getElem lp;rw [e2];have ev2:es[p].2=v:=by
   rw [<-ev,nr,qT,e2];rfl
  refine aH ?_;refine aq (rV hit λh2 b2 i2=>aH ⟨_,rfl,aH ?_⟩);show Q (some es[p].2) { s with heap:=h2 };rw [ev2];exact q h2 _ b2 i2 (.inr (.inl ⟨bt,Pt,ps,po,pn,rfl,b2.extBut Pt po (nI Pt rfl) OR,Tu,pp,Hg⟩)) λPt z=>z
 dsimp only;simp only [gI];have ZO:=hv;rw [Hg,bo,qT] at hv;obtain⟨e,ee,ev⟩:=cf.mp hv;have li:=(Array.getElem?_eq_some_iff.mp ee).1;obtain rfl:i=0:=by omega
 have sz:es.size=1:=by omega
 obtain rfl:=k0 rfl;have sp:t.place.size=1:=by
  have h1:(t.place.size == es.size && decide (t.fill<=t.mask))=true:=hf;have:=(fj.mp h1).1;rw [<-sz];simpa using this
 obtain⟨j,ej⟩:∃j,t.place=#[j]:=⟨t.place[0],Array.ext (by simp [sp]) λi h1 h2=>by
  have:i=0:=by simp at h2;exact h2
  subst this;rfl⟩
 refine aq (xU ho hd hf bt dr ld _ _ ?_);rw [ej,vf,aw (q_ _),ee];obtain⟨eh,ex⟩:=e;show wpAny _ _ (setField (.ref I) 0 (rawInt ((j+1:Nat):Int)) >>= _) _ _ s;refine aq (rW hit _ λh1 b1 i1=>aq (rV (s:={ s with heap:=h1 }) i1 λh2 b2 i2=>aH ⟨_,rfl,aH ?_⟩));show Q (some ex) { s with heap:=h2 };rw [show ex=v from ev];exact q h2 _ (b1.trans b2) i2 (.inr (.inr ⟨bt,Te,dr,ld,j+1,rfl,Hg,(λz=>by cases z),λ_=>⟨j,by rw [ej];rfl,rfl⟩⟩)) λPt z=>by cases z
def vU {Q:Option Value->Shared->Prop}{F:PySem.Fin->Shared->Prop}(hh:A.handled=none)(q:∀h',(∀b o,s.heap.get? b=some o->h'.get? b=some o)->Q none { s with heap:=h' }) :
  wpAny (model P w) A.in1 (newExc (.type "StopIteration") [] >>= λx=>(raiseNew x:Sem PySem.Fin)) F (λe s'=>wpAny (model P w) A (isInstance e (Value.type "StopIteration") >>= λb=>if b=true then pure none else throw e) Q E s') s:=by
 refine aq ?_;simp only [newExc,newTuple];refine aq (gH ?_ (by size_fits));refine aq (m:=firstArgMember _ _) (wpAny_of_eq (a:=Value.none) (by first | rfl | (simp only [firstArgMember];rfl)) ?_)
 refine gH ?_ (by size_fits);simp only [raiseNew];refine aq (wpAny_handled ?_);rw [show A.in1.handled=none from hh];refine aq (aH (wpAny_throw ?_));refine aq (q9 (T := "StopIteration") (b:=true) ⟨_,cy _ rfl,rfl⟩ isSubtype_stop ?_);exact aH (q _ λb o e=>bG _ (bG _ e))
def rT {I S:Addr}{fst:Value}{i n ep:Nat}{Q:Unit->Shared->Prop}(hit:mh s.heap I S fst i n ep)(q:∀h',Heap.SameBut I s.heap h'->Q () { s with heap:=h' }):wpAny (model P w) A (setField (.ref I) 2 Value.none) Q E s:=by
 obtain⟨o,ho,hc,hd⟩:=hit;exact qV ho hd (by simp) (q _ (mC ..))
def Kl {S I:Addr}{o:Obj}{es:Array (Int×Value)}{ep i:Nat}{t:SetTable}{vals:List Value}{fst:Value}{Q:Option Value->Shared->Prop}(hh:A.handled=none)(hit:mh s.heap I S fst i es.size ep)(ho:s.heap.get? S=some o)(hd:o.data=.set es ep t)(hf:t.fits es.size=true)(m:qr w s.heap S es ep t vals fst i)(hi:i=es.size)
  (q:∀(h':Heap),(∀b o,b≠I->s.heap.get? b=some o->h'.get? b=some o)->Q none { s with heap:=h' }) :
  wpAny (model P w) A (pyNext (.ref I)) Q E s:=by
 obtain⟨oi,Nw,Rx,WX⟩:=id hit;have tI:s.TypeIs (.ref I) "set_iterator" := ⟨oi,Nw,Rx⟩;have lv:vals.length=es.size:=by rw [m.perm.length_eq,av,iF]
 unfold pyNext;refine aq (oN (nq (name:=Str.ofString "__next__") tI dM (j6 dM tI lG ?_ (me _))));show wpAny _ _ (fieldsOf (.ref I) >>= _) _ _ s;refine aq (wpAny_fieldsOf Nw WX ?_);show wpAny _ _ (setEntries S >>= _) _ _ s;refine aq (wpAny_setEntries_of ho hd hf ?_);have ne:((es.size:Int) != (es.size:Int))=false:=by simp
 dsimp only;rw [ne];rw [aw cZ];rcases m with ⟨bt,rfl,Hg⟩ | ⟨bt,Pt,ps,po,pn,rfl,OR,Tu,pp,Hg⟩ | ⟨bt,Te,dr,ld,k,rfl,Hg,k0,k1⟩
 .dsimp only;simp only [gI];refine aq (BU ho hd hf bt _ _ ?_);have e0:(pickOrder (w.params.setOrder S ep) es)[i]?=none:=by
   rw [<-qT];refine p_ ?_;rw [(uH _ _).length_eq,iF];omega
  rw [e0];exact aq (rT hit λh1 b1=>vU (s:={ s with heap:=h1 }) hh λh' k=>q h' λb o nb e=>k b o (b1.extBut b o nb e))
 .dsimp only;simp only [gI];refine aq (mq OR Tu ?_);dsimp only;have e0:((ps.map λp:Nat=>Value.int p 0).toArray)[i]?=none:=by
   rw [List.getElem?_toArray];refine p_ ?_;rw [av,pp.length_eq,mx];omega
  rw [e0];exact aq (rW hit _ λh0 b0 i0=>aq (rT (s:={ s with heap:=h0 }) i0 λh1 b1=>vU (s:={ s with heap:=h1 }) hh λh' k=>q h' λb o nb e=>k b o (b1.extBut b o nb (b0.extBut b o nb e))))
 dsimp only;simp only [gI];refine aq (xU ho hd hf bt dr ld _ _ ?_);have sp:t.place.size=es.size:=by
  have h1:(t.place.size == es.size && decide (t.fill<=t.mask))=true:=hf;simpa using (fj.mp h1).1
 have e0:es[SetTable.below t.place k]?=none:=by
  by_cases z:es.size=0
  .exact vL (by omega)
  have i1:i=1:=by omega
  obtain⟨j,ej,rfl⟩:=k1 i1;obtain⟨j',ej'⟩:∃j,t.place=#[j]:=⟨t.place[0],Array.ext (by simp;omega) λi h1 h2=>by
   have:i=0:=by simp at h2;exact h2
   subst this;rfl⟩
  rw [ej'] at ej ⊢;cases (show some j'=some j from ej);rw [vf,ax (j7 _)];exact vL (by omega)
 rw [e0];exact aq (rT hit λh1 b1=>vU (s:={ s with heap:=h1 }) hh λh' k=>q h' λb o nb e=>k b o (b1.extBut b o nb e))
end
def lX:Slot "set_iterator" "__iter__" "set_iterator.__iter__" := xV "__iter__" _ _ (by rw [typeLookup_type,vF];kernel_rfl) (by decide +kernel) (by decide +kernel) (by decide +kernel) (by decide +kernel) (by decide +kernel)
def tu:entryFor table "set_iterator.__iter__"=some Builtin.«dict_keyiterator.__iter__»:=entryFor_alias (id' := "dict_keyiterator.__iter__") (by kernel_rfl) rfl (by decide +kernel) (by kernel_rfl)
def uq (a:Value):argsOk "set_iterator.__iter__" ⟨[a],[]⟩:=by unfold argsOk;kernel_rfl
def Kh (I S:Addr):Value->List Addr
 | .ref Pt=>[I,S,Pt]
 | _=>[I,S]
structure xw (w:World)(I S:Addr)(o:Obj)(es:Array (Int×Value)) (ep:Nat)(t:SetTable)(vals:List Value)(fp:List Addr) (i:Nat)(h:Heap)(fst:Value):Prop where
 it:mh h I S fst i es.size ep
 ho:h.get? S=some o
 md:qr w h S es ep t vals fst i
 pt:∀Pt,fst=.ref Pt->Pt∈fp/\Pt≠I
def xw.at {w:World}{I S:Addr}{o:Obj}{es:Array (Int×Value)}{ep:Nat}{t:SetTable}{vals:List Value}{fp:List Addr}{i:Nat}{h h':Heap}{fst:Value}(x:xw w I S o es ep t vals fp i h fst)(hI:I∈fp)(hS:S∈fp)(k:∀b∈fp,∀o,h.get? b=some o->h'.get? b=some o):xw w I S o es ep t vals fp i h' fst:=by
 obtain⟨⟨oi,a,b⟩,ho,md,pt⟩:=x;refine⟨⟨oi,k I hI _ a,b⟩,k S hS _ ho,?_,pt⟩;rcases md with m | ⟨bt,Pt,ps,po,pn,e,OR,r⟩ | m
 .exact .inl m
 .exact .inr (.inl ⟨bt,Pt,ps,po,pn,e,k Pt (pt Pt e).1 _ OR,r⟩)
 exact .inr (.inr m)
section
variable {P:Program}{w:World}{A:Around}{E:Value->Shared->Prop}{s:Shared}
def E8 {I S:Addr}{o:Obj}{es:Array (Int×Value)}{ep:Nat}{t:SetTable}{vals:List Value}{fp:List Addr}(hh:A.handled=none)(nIS:S≠I)(hI:I∈fp)(hS:S∈fp)(hd:o.data=.set es ep t)(hf:t.fits es.size=true) :
  WalksS P w A I fp [I] (λa b=>b=a) es.size (λi v=>vals[i]?=some v) (λi s=>∃fst,xw w I S o es ep t vals fp i s.heap fst) where
 sub:=λb hb=>by rw [bB.mp hb];exact hI
 grefl:=λ_=>rfl
 gtrans:=λ_ _ _ x y=>by rw [y,x]
 frame:=λi s h' tk ⟨fst,x⟩ _ k=>⟨fst,x.at hI hS k⟩
 item:=λi s Q E hi ⟨fst,x⟩ q=>by
  have lv:vals.length=es.size:=by rw [x.md.perm.length_eq,av,iF]
  have ev:vals[i]?=some vals[i]:=b9 (by omega);refine GX x.it x.ho hd hf x.md (λPt e=>(x.pt Pt e).2) ev λh' HH sb it md ke=>?_;refine q _ _ ev ⟨HH,it,sb.extBut S o nIS x.ho,md,λPt e=>x.pt Pt (ke Pt e)⟩ ⟨λb o hb e=>sb.extBut b o (λz=>hb (by rw [z];exact cI)) e,rfl,rfl,rfl,aD _⟩
 done:=λs Q E ⟨fst,x⟩ q=>by
  refine Kl hh x.it x.ho hd hf x.md rfl λh' k=>q _ ⟨λb o hb e=>k b o (λz=>hb (by rw [z];exact cI)) e,rfl,rfl,rfl,aD _⟩
 self:=λi s Q E ⟨fst,x⟩ q=>by
  obtain⟨oi,Nw,Rx,_⟩:=x.it;have tI:s.TypeIs (.ref I) "set_iterator" := ⟨oi,Nw,Rx⟩;refine wpAny_pyIter_slot tI lX (j6 lX tI tu ?_ (uq _));show wpAny _ _ (ret (.ref I)) _ _ s;exact aH ⟨_,rfl,"set_iterator",_,tI,dM.lookup,q⟩
def KR {α:Type}{M:Model}{c:Prop} [Decidable c] {a b:Sem α}{Q:α->Shared->Prop}(hc:c)(h:wpAny M A a Q E s):wpAny M A (if c then a else b) Q E s:=by rw [ax hc];exact h
abbrev RS:Obj:={ cls:=.type "list",data:=.seq ([]:List Value).toArray }
theorem xJ:∀{vs:List Value},(∀v∈vs,∃z k,v=.str z k)->StrsAre vs (vs.map kS)
 | [],_=>.nil
 | v::r,h=>by
  obtain⟨z,k,e⟩:=h v cI;subst e;exact .cons z k (xJ λu hu=>h u (cV _ hu))
def yT {S:Addr}{ds:List Str}{Q:List Value->Shared->Prop}(hh:A.handled=none)(T:gb P w s.heap S (yt w) ds)(hb:ds.length < scanBound)
  (q:∀(h':Heap)(d:Drawn) (tk:Nat)(vs:List Value),(∀b o,s.heap.get? b=some o->h'.get? b=some o)->s.heap.objs.size<=h'.objs.size->(∃zs,StrsAre vs zs/\zs.Perm ds)->s.toks<=tk->Q vs { s with heap:=h',drawn:=d,toks:=tk }):wpAny (model P w) A (collect (.ref S)) Q E s:=by
 obtain⟨o,es,ep,t,ho,hx,hd,DK,mY,uh,hf,hl,uR⟩:=T;have hsz:=gb.size uh;have nS:s.heap.objs.size≠S:=jZ (bu ho);unfold collect;refine aq (wpAny_runValue (kK F.entry_proto_collect ?_));rw [lV F.plain_proto_collect _];show wpAny _ A.in1 (newList [] >>= λl=>again (.builtin "list.__iadd__" ⟨[l,.ref S],[]⟩)) _ _ s;refine aq (gH ?_);refine aH ⟨i8 F.plain_list_iadd _,kK F.entry_list_iadd ?_⟩;rw [lV F.plain_list_iadd _];have ES:(s.heap.push RS).get? S=some o:=bG _ ho;show wpAny _ A.in1 (Builtin.List.listExtendWith (.ref s.heap.objs.size) (.ref S) (.ref s.heap.objs.size)) _ _ _;unfold Builtin.List.listExtendWith;refine aq (jX (T := "set") ⟨o,ES,hx.1⟩ ?_);have h1:Builtin.List.listSameRef (.ref s.heap.objs.size) (.ref S)=false:=by simp [Builtin.List.listSameRef,nS]
 have h2:(Value.type "set" == Value.type "list")=false:=by decide
 have h3:(Value.type "set" == Value.type "tuple")=false:=by decide
 simp only [h1,h2,h3,Bool.or_false,Bool.false_eq_true,if_false];refine aq (He (s:={ s with heap:=s.heap.push RS }) ES hx hd hf hl uR (by omega) λI h2 d vals fst kp leI it md pt=>?_);refine aq (iV ?_);unfold Builtin.List.listLengthHint;have AL:=kp _ _ ES;refine aq (wpAny_specialOf (T := "set") ⟨o,AL,hx.1⟩ F.slot_set_len.lookup ?_);dsimp only;rw [show splitId "set.__len__"=some ("set","__len__") by decide +kernel];dsimp only;refine aq (q9 (T := "set") (b:=true) ⟨o,AL,hx.1⟩ sub_set_self ?_);rw [Bool.not_true,aw cZ];refine KR (by decide +kernel) ?_;refine aq (jX (T := "set") ⟨o,AL,hx.1⟩ ?_);refine aH ?_;refine KR (by decide +kernel) ?_;refine aq (ik ?_);have DQ:h2.get? s.heap.objs.size=some RS:=kp _ _ (cy _ rfl);refine aq ?_;show wpAny _ A.in1 (updateSeq s.heap.objs.size (·.push .none) >>= λ_=>updateSeq s.heap.objs.size (·.pop)) _ _ _;refine aq (wpAny_updateSeq DQ rfl ?_);have Z_:=qQ (Obj.mapSeq (·.push Value.none)) DQ rfl;refine wpAny_updateSeq Z_ rfl ?_;have TU:=qQ (Obj.mapSeq (·.pop)) Z_ rfl;have Vn:∀b o,b≠s.heap.objs.size->h2.get? b=some o->((h2.update s.heap.objs.size (Obj.mapSeq (·.push Value.none))).update s.heap.objs.size (Obj.mapSeq (·.pop))).get? b=some o:=λb o nb e=>(vH _ _ (fk nb)).trans ((vH _ _ (fk nb)).trans e);generalize (h2.update s.heap.objs.size (Obj.mapSeq (·.push Value.none))).update s.heap.objs.size (Obj.mapSeq (·.pop))=h4 at TU Vn ⊢;have Nc:s.heap.objs.size+1<=I:=by
  have:(s.heap.push RS).objs.size<=I:=leI;rw [j5] at this;exact this
 have Zj:s.heap.objs.size≠I:=bD Nc;have nSI:S≠I:=bD (jA (bu ho) Nc);have Y3:∀Pt,fst=.ref Pt->Pt≠I/\s.heap.objs.size≠Pt:=λPt e=>⟨(pt Pt e).1,by
  have h:=(pt Pt e).2;have h':(s.heap.push RS).objs.size<=Pt:=h;rw [j5] at h';exact bD h'⟩
 have hI:I∈Kh I S fst:=by cases fst <;> simp [Kh]
 have hS:S∈Kh I S fst:=by cases fst <;> simp [Kh]
 have hL:s.heap.objs.size∉Kh I S fst:=by
  cases fst with
  | ref Pt=>simp only [Kh,bX,rj,or_false,not_or];exact⟨Zj,nS,(Y3 Pt rfl).2⟩
  | _=>simp only [Kh,bX,rj,or_false,not_or];exact⟨Zj,nS⟩
 have EI:xw w I S o es ep t vals (Kh I S fst) 0 h2 fst:=⟨it,AL,md,λPt e=>⟨by rw [e];simp [Kh],(Y3 Pt e).1⟩⟩;have Mp:=EI.at (h':=h4) hI hS λb hb o e=>Vn b o (λz=>hL (by rw [<-z];exact hb)) e;have W:=E8 (P:=P) (w:=w) (A:=A.in1) (vals:=vals) (by simp [hh]) nSI hI hS hd hf;refine aH ⟨i8 F.plain_extend_loop _,codeAny_extend_loopS W (fits_of_scanBound (by omega)) _ hL _ es.size 0 _ _ _ rfl (fh _) ⟨fst,Mp⟩ TU (ItemsOf.nil _) λs' bH c' hm EW uj=>?_⟩;show wpAny _ A (load s.heap.objs.size >>= _) _ _ s';refine aq (wpAny_load EW ?_);obtain⟨h',g',d',UO,Qi⟩:=s';have eg:g'=s.gens:=hm.gens;have ed:d'=d:=hm.drawn;have eo:Qi=s.os:=hm.os;subst eg;subst ed;subst eo;have lv:vals.length=es.size:=by rw [md.perm.length_eq,av,iF]
 have ea:bH.toList=vals:=by
  refine List.ext_getElem? λj=>?_;by_cases c:j < es.size
  .have h1:bH[j]?=some (bH[j]'(by rw [uj.1];exact c)):=Array.getElem?_eq_getElem _;rw [qT,h1];exact(uj.2 j _ h1).symm
  rw [p_ (by rw [iF,uj.1];omega),p_ (by omega)]
 refine aH (q h' d' UO bH.toList (λb o e=>?_) (i7 (bu EW)) ?_ hm.toks)
 .have lb:=bu e;refine hm.heap b o ?_ (Vn b o (bD lb) (kp b o (bG _ e)));simp only [bX,rj,or_false,not_or];exact⟨bD lb,bD (jA lb Nc)⟩
 rw [ea];refine⟨vals.map kS,xJ λv hv=>?_,?_⟩
 .obtain⟨e,he,rfl⟩:=cx.mp (md.perm.mem_iff.mp hv);exact mY e he
 have h1:=md.perm.map kS;rw [iU] at h1;exact h1.trans uh
def zP {S:Addr}{ds:List Str}{Q:Value->Shared->Prop}(hh:A.handled=none)(T:gb P w s.heap S (yt w) ds)(Xi:ds.length < 64)
  (q:∀(h':Heap)(d:Drawn) (tk:Nat)(l:Addr) (e:Nat)(out:Array Value) (zs:List Str),(∀b o,s.heap.get? b=some o->h'.get? b=some o)->s.heap.objs.size<=l->h'.get? l=some (seqObj "list" out e)->StrsAre out.toList zs->zs.Perm ds->sortedS zs=true->s.toks<=tk->Q (.ref l) { s with heap:=h',drawn:=d,toks:=tk }) :
  wpAny (model P w) A (call (.builtin "sorted") [.ref S]) Q E s:=by
 refine Calls.call_function_entry kind_sorted plain_sorted entry_sorted (args_sorted1 _) ?_;unfold Builtin.«sorted»;refine aq (m:=checkCount "sorted" 1 1 _) (aH ?_);refine aq (yT (by simp [hh]) T (by unfold scanBound;omega) λh1 d tk vs kp le hz tk1=>?_);obtain⟨zs,hS,pz⟩:=hz;have lz:vs.length=ds.length:=by rw [<-pz.length_eq];exact StrsAre.length hS
 refine aq (wpAny_newList ?_);have Rc:(h1.push (seqObj "list" vs.toArray 0)).get? h1.objs.size=some (seqObj "list" vs.toArray 0):=cy _ rfl;refine aq (iV (j6 slot_list_sort ⟨_,Rc,rfl⟩ entry_list_sort (list_sort_treeK strKind_oneLt Rc hS.keysOf (λv₁ v₂ rest e=>keyKind_strs (by rw [<-e];exact hS)) (by omega) λuC a1 a2=>⟨_,rfl,?_⟩) (args_list_sort _)));obtain⟨ss,b1,b2,b3⟩:=sorted_out_str hS a1 a2;obtain⟨e,he⟩:=sortedHeap_at (out:=(arrOf uC).map (·.2)) Rc;refine aH ⟨_,rfl,q _ d tk h1.objs.size e _ ss (λb o hb=>?_) le he b1 (b2.trans pz) b3 tk1⟩;have IP:=kp b o hb;have lb:=bu IP;rw [sortedHeap_old (bD lb) (by rw [j5];exact pX lb)];exact bG _ IP
end
def Eh (zs:List Str):List Str:=il (λi=>zs.getD i "") zs.length
theorem yq (val:Nat->Str)(z:Str):∀n,z∈il val n↔∃i,i < n/\val i=z
 | 0=>⟨λh=>(by cases h),λ⟨i,h,_⟩=>absurd h (q_ _)⟩
 | n+1=>by
  have ih:=yq val z n;show z∈(if val n∈il val n then il val n else il val n++[val n])↔_;have key:z∈(if val n∈il val n then il val n else il val n++[val n])↔z∈il val n\/z=val n:=by
   by_cases c:val n∈il val n
   .rw [ax c];exact⟨.inl,λh=>h.elim id λe=>e ▸ c⟩
   rw [aw c,cg,bB]
  rw [key,ih];constructor
  .rintro(⟨i,h,e⟩ | e)
   .exact⟨i,pX h,e⟩
   exact⟨n,j7 _,e.symm⟩
  rintro⟨i,h,e⟩;by_cases c:i < n
  .exact .inl ⟨i,c,e⟩
  have:i=n:=by omega
  exact .inr (by rw [<-e,this])
def HY (zs:List Str)(z:Str):z∈Eh zs↔z∈zs:=by
 unfold Eh;rw [yq];constructor
 .rintro⟨i,h,e⟩;rw [nr,b9 h] at e;rw [<-e];exact pW h
 intro h;obtain⟨i,hi⟩:=iw h;exact⟨i,(bj.mp hi).1,by rw [nr,hi];rfl⟩
def yL (zs:List Str):(Eh zs).length<=zs.length:=sG _ _
def tSS (K:a8)(te:TE):TE:=λσ H Q=>te σ H λx H1=>∃a zs,x=.ref a/\aG K H1 a (List.map V.str zs)/\zs.length < 64/\∀l E6,H1 l=none->E6.Perm (Eh zs)->sortedS E6=true->Q (.ref l) (upd H1 l (.lst (List.map V.str E6)))
theorem BA:∀{aN:List Value}{zs:List Str},StrsAre aN zs->∀(i:Nat)(v:Value),aN[i]?=some v->∃t,v=Value.str (zs.getD i "") t
 | _,_,.nil,i,v,h=>by cases h
 | _,_,.cons z t r,0,v,h=>by cases h;exact⟨t,rfl⟩
 | _,_,.cons z t r,i+1,v,h=>BA r i v h
def Ey:bootBuiltins "set"=some (.type "set"):=by decide +kernel
theorem Inv.drawn {X:Cx}{ag:List (Addr×Obj)}{σ:List (Option V)}{H:Hp}{s:Shared}(d:Drawn)(I:Inv X ag σ H s):Inv X ag σ H { s with drawn:=d }:=⟨I.ok,I.os,I.bare,I.base,I.loc,I.cell,I.free,I.lD,I.pin,I.bY,I.len⟩
def wC {X:Cx}{e:Expr}{te:TE}{p1 p2 q1 q2:Pos}(hc:X.calm=true)(hg:Gl X "sorted")(hm:X.mg "sorted"=none)(Rm:Gl X "set")(Rg:X.mg "set"=none)(he:PE X e te)
  (h1:starEach [.Call (.Name "set" p2) [e] [] q2] X.env=(false,eval (.Call (.Name "set" p2) [e] [] q2) X.env)::starEach [] X.env:=by rfl)(h2:starEach [e] X.env=(false,eval e X.env)::starEach [] X.env:=by rfl) :
  PE X (.Call (.Name "sorted" p1) [.Call (.Name "set" p2) [e] [] q2] [] q1) (tSS X.K te):=by
 intro ag s σ H Q I h;have hh:=I.ok.hd hc;refine nj (iP I hg hm boot_sorted ?_);refine PyProof.Rows.callWith_builtin1 ?_ h1 rfl;rw [h1];show wpAny _ _ (spliced ((false,eval (.Call (.Name "set" p2) [e] [] q2) X.env)::backTo q1 (starEach [] X.env))) _ _ s;refine pY ?_;refine nj (iP I Rm Rg Ey ?_);refine xA ?_ h2 rfl;rw [h2];show wpAny _ _ (spliced ((false,eval e X.env)::backTo q2 (starEach [] X.env))) _ _ s;refine pY (cW (he ag s σ H _ I h) λu s1 ⟨x,H1,I1,r1,q1⟩=>?_);obtain⟨a,zs,rfl,hq,Xi,q1⟩:=q1;cases (show u=Value.ref a from r1);refine oW ?_;obtain⟨aN,rv,pl,hz⟩:=I1.list hq;have sa:=xI rv;have br:=rv.length;rw [av] at br;refine xg (val:=λi=>zs.getD i "") hh pl.isList (λi v hv=>?_) (by simp only [bN];unfold scanBound;omega) λh' tk T kp=>?_
 .have ZN:aN[i]?=some v:=by rw [List.getElem?_toArray] at hv;exact hv
  exact BA sa i v ZN
 refine oW ?_;have eds:il (λi=>zs.getD i "") aN.toArray.size=Eh zs:=by unfold Eh;simp only [bN];rw [<-br]
 rw [eds] at T;have Tf:=yL zs;refine zP hh T (by omega) λh2 d tk2 l ee out ss DA Zs Rr b1 b2 b3 tk3=>?_;have V6:∀b u,s1.heap.get? b=some u->h2.get? b=some u:=λb u hb=>DA b u (kp b u (bu hb) hb);have v:=uv b1;have lss:ss.length<=zs.length:=by rw [b2.length_eq];exact Tf
 have Zr:s1.heap.objs.size<=l:=by
  obtain⟨oT,_,_,_,hoT,_⟩:=T;exact dH (i7 (bu hoT)) Zs
 refine⟨.ref l,_,(I1.laid (t':=tk2) V6 Zr (show cK X.prog X.w _ _ _ (.lst (List.map V.str ss)) from ⟨?_,out.toList,ee,v,?_⟩)).drawn d,rfl,q1 _ ss (I1.bY.fresh Zr) b2 b3⟩
 .rw [av];rw [av] at hz;omega
 rw [Rr]
end L2
namespace gR
open PySem L2 M11
abbrev Mz:Stmt:=top 60
def Ae (rs:List Addr):∀v∈rs.map V.ref,tT v:=λv hv=>by
 obtain⟨a,_,rfl⟩:=cx.mp hv;exact .inr ⟨a,rfl⟩
theorem qe {F:V->V->Prop}:∀(xs:List V),(∀x∈xs,F x x)->Paired F xs xs
 | [],_=>.nil
 | x::xs,h=>.cons (h x cI) (qe xs λy hy=>h y (cV _ hy))
def El (a:Addr)(l:List Addr):gp ((a::l).map V.ref) (some 1) none=l.map V.ref:=by
 unfold gp;rw [show (some (1:Int))=some ((1:Nat):Int) from rfl,HT.qH];show ((V.ref a::l.map V.ref).drop (min 1 (l.map V.ref).length.succ)).take _=_;have:min 1 (l.map V.ref).length.succ=1:=by omega
 rw [this];exact qU (by show (l.map V.ref).length<=((a::l).map V.ref).length - _;rw [show ((a::l).map V.ref).length=(l.map V.ref).length+1 from rfl];omega)
def yf {o:Option Tr}{A:Prop}{B:Tr->V->Prop}{C:Tr->V->Prop}(e:o=none)(q:A):(o=none->A)/\∀t v,o=some t->B t v->C t v:=⟨λ_=>q,λt v e2 _=>by rw [e] at e2;cases e2⟩
def Qm {o:Option Tr}{t0:Tr}{A:Prop}{B:Tr->V->Prop}{C:Tr->V->Prop}(e:o=some t0)(q:∀v,B t0 v->C t0 v):(o=none->A)/\∀t v,o=some t->B t v->C t v:=⟨λe2=>(by rw [e] at e2;cases e2),λt v e2 b=>by rw [e] at e2;cases e2;exact q v b⟩
def FX {aa:List au}(ds:List Dd):resT aa (ds.map De.d)=none:=by
 unfold resT;cases e:(ds.map De.d).getLast? with
 | none=>rfl
 | some d =>
  obtain⟨x,_,rfl⟩:=cx.mp (List.mem_of_getLast? e);rfl
def C0 {aa:List au}(es:List De):resT aa ((es++[.dn])++[.dn])=none:=by
 unfold resT;rw [rC,rF,o_];show Ec (fO (mU aa) (es++[.dn]) [])=none;rw [jl];cases fO (mU aa) es [] with
 | none=>rfl
 | some p=>rfl
def Oj {aa:List au}{p q p1 q1:List Tr}{d:De}(h1:mU aa p d=some p1)(h2:mU aa q d=some q1):p1.length+q.length=q1.length+p.length:=by
 cases d with
 | d x =>
  cases x with
  | step z =>
   have h1:(if z∈hd aa then none else some (p++[Tr.w z]))=some p1:=h1;have h2:(if z∈hd aa then none else some (q++[Tr.w z]))=some q1:=h2;by_cases c:z∈hd aa
   .rw [ax c] at h1;cases h1
   rw [aw c] at h1 h2;cases h1;cases h2;rw [bp,bp];omega
  | make k =>
   obtain⟨ru,er,le,_,rfl⟩:=jQ (show ib aa k p=some p1 from h1);obtain⟨IF,Kj,Zs,_,rfl⟩:=jQ (show ib aa k q=some q1 from h2);rw [er] at Kj;cases Kj;rw [bp,bp,dC,dC,d8,d8];omega
 | si n=>cases h1
 | no=>cases h1
 | dn=>cases h1
theorem B0 {aa:List au}:∀(ds:List De){p q p1 q1:List Tr},fO (mU aa) ds p=some p1->fO (mU aa) ds q=some q1->p1.length+q.length=q1.length+p.length
 | [],p,q,p1,q1,h1,h2=>by cases h1;cases h2;exact Nat.add_comm _ _
 | d::r,p,q,p1,q1,h1,h2=>by
  have h1:(mU aa p d).bind (fO (mU aa) r)=some p1:=h1;have h2:(mU aa q d).bind (fO (mU aa) r)=some q1:=h2;cases e1:mU aa p d with
  | none=>rw [e1] at h1;cases h1
  | some p2 =>
   cases e2:mU aa q d with
   | none=>rw [e2] at h2;cases h2
   | some q2 =>
    rw [e1] at h1;rw [e2] at h2;have:=Oj e1 e2;have:=B0 r h1 h2;omega
def FV {aa:List au}{t:Tr}{x z:Str}{r:List Dd}(h:Is aa t x)(e:iT t=.step z::r):resT aa (r.map De.d++[.dn])=none:=by
 have h1:=wz t x [] h;rw [e] at h1;have h1:(if z∈hd aa then none else some ([]++[Tr.w z])).bind (fO (mU aa) (r.map De.d))=some ([]++[t]):=h1;unfold resT;rw [rC,rF,o_];show Ec (fO (mU aa) (r.map De.d) [])=none;by_cases c:z∈hd aa
 .rw [ax c] at h1;cases h1
 rw [aw c] at h1;cases h2:fO (mU aa) (r.map De.d) [] with
 | none=>rfl
 | some q1 =>
  have hl:=B0 (r.map De.d) h1 h2;have:q1=[]:=rG.mp (by simp only [bp,d8,iW] at hl;omega);rw [this];rfl
def Ei {k:Nat}{cs:gU}:∃d r,iT (.n k cs)=d::r:=by
 rw [Ct];cases jv cs with
 | nil=>exact⟨_,_,rfl⟩
 | cons d r=>exact⟨_,_,rfl⟩
section
def BM (K:a8)(T1 T2 T3:Addr):Sp:=λvs H Q _=>∃(a:Addr)(ns:List Int),vs=[.ref a]/\aG K H a (ns.map V.int)/\ns.length<=63/\CD T1 T2 T3 H/\∀H',Q (.bl true) H'
def rY:aI ["_law_script","_law_rules","_law_names_here","_law_k","_law_tree_here","_law_deeds_here","_law_handed"] ["_law_script"] (ay Mz):=iS rfl rfl rfl rfl (by decide +kernel)
def M4 {Cg C T1 T2 T3 fG:Addr}{fdG:FuncData}(F:ix K "law" "law" Mz f fd)(T:Txt mg)(hSo:mg "sorted"=none)(hSe:mg "set"=none)
  (GG:aE P w K mg base 11 "_law_grammar" ["_law_script","_law_at"] (Fn K))(GDT:aE P w K mg base 11 "_law_drawn_tree" ["_law_rules","_law_name","_law_cells"] (xQ K))(GDL:aE P w K mg base 11 "_law_deeds" ["_law_tree_here"] (nJ K 10))
  (GI:aE P w K mg base 11 "_law_is" ["_law_answer","_law_tree_here"] (Mr K 10))(Pk:aE P w K mg base 11 "tree_of" ["rules","deeds"] (xN K))
  (G:GC K Cg)(MG:Mk K Cg fG)(FG:bQ P w K mg base fX 10 fG fdG ["self","rules","strengths"] (BO K Cg C T1 T2 T3))(B1:Binds K fdG ["self","rules","strengths"] [.none])(mG:mg "Grammar"=some (.ref Cg)):bQ P w K mg base fX 12 f fd ["_law_script"] (BM K T1 T2 T3):=by
 refine F.ok rY (λvs H Q E h=>?_) (λeJ A outer s H vs Q E hr h=>?_)
 .obtain⟨a,ns,rfl,_⟩:=h;rfl
 obtain⟨S,ns,rfl,hS,hl,hT,q⟩:=h;have QY:=Pu (n:=1+1) hr (by decide);refine⟨_,aj (aC (i:=1) rY.nd rfl (bA rfl) (eZ (wD (dvs:=[.eU]) MG FG hr rfl mG B1 (.cons rfl .nil) uI (ab (bc GG hr rfl (ab (pv 0) (ab ar ah))) ah)) rfl))
  (aj (aC (i:=2) rY.nd rfl (bA rfl) (wC rfl rfl hSo rfl hSe (ba ["_law_head","_law_parts"] [] rfl (aX (pv 1)) (a9 rfl rfl) (by decide +kernel) rfl (by decide +kernel)
   (λ_ _ _ _ _=>fc (n:=2) K rfl (aA (ao (i:=0) (show (["_law_head","_law_parts"]:List Str).Nodup by decide +kernel) rfl (bA rfl)) (aA (ao (i:=1) (show (["_law_head","_law_parts"]:List Str).Nodup by decide +kernel) rfl (bA rfl)) bU))) (λ_ _ _ _ _=>bO) (λ_ _ _ _ _=>pv 0))))
  (aj (bJ b8 rfl (gu rfl T.CZ (ab (aF aK rfl T.len dI (ab (pv 2) ah)) ah)) (ao (i:=3) rY.nd rfl (bA rfl))
   (aj (aC (i:=4) rY.nd rfl (bA rfl) (bc GDT hr rfl (ab (pv 1) (ab (aP bS (pv 2) (pv 3) (λ_ _=>rfl)) (ab (fI jG (pv 0) (e_ (aZ fY ar (aZ Ao ar (pv 3)))) (e_ (aZ fY ar (aZ Ao ar (pv 3))))) ah)))))
   (aj (aC (i:=5) rY.nd rfl (bA rfl) (aZ jO (bc GDL hr rfl (ab (pv 4) ah)) (bz (ab (bR (ab cC ah)) ah))))
   (aj (aC (i:=6) rY.nd rfl (bA rfl) (aV cY rfl T.lst dY (ab (pv 5) ah)))
   (aj (bT (PW.pt (kY (iL (dF (bc GI hr rfl (ab (bc Pk hr rfl (ab (aV cY rfl T.lst dY (ab (pv 1) ah)) (ab (pv 6) ah))) (ab (pv 4) ah))))) (jJ (bw (An 1 QY) (pv 6) (pv 5) (bV _))))) (ak (aQ dU)) aS)
   (aj (bT (PW.pt (kY (dG (wF (bc Pk hr rfl (ab (aV cY rfl T.lst dY (ab (pv 1) ah)) (ab (fI jG (pv 5) g_ (e_ (lZ i_ ar))) ah))))) (jJ (dG (wF (bc Pk hr rfl (ab (aV cY rfl T.lst dY (ab (pv 1) ah)) (ab (aZ jO (pv 5) (bz (ab (bR (ab cC ah)) ah))) ah)))))))) (ak (aQ dU)) aS)
   (ak (bT (PW.pt (ja (bw ye (aF aK rfl T.len dI (ab (pv 5) ah)) ar (bV _)) (ja (bw iN (aP bq (aP bS (pv 5) ar (λ_ _=>rfl)) ar (λ_ _=>rfl)) cC (bV _)) (iz (dG (wF (bc Pk hr rfl (ab (aV cY rfl T.lst dY (ab (pv 1) ah)) (ab (fI jG (pv 5) (e_ ar) g_) ah))))))))) (ak (aQ dU)) aS))))))))
  (ak (aQ (jM (sq (Ak (bc Pk hr rfl (ab (aV cY rfl T.lst dY (ab (pv 1) ah)) (ab (bz ah) ah))))) (jL (sq (Ak (bc Pk hr rfl (ab (aV cY rfl T.lst dY (ab (pv 1) ah)) (ab (bz (ab (bR (ab cC ah)) ah)) ah))))))))))),?_⟩
 nofun
 refine⟨_,rfl,S,ns,0,rfl,hS,by omega,λc R0 rs aa H1 hc f0 s1 eR0 Vh go=>?_⟩;obtain⟨rk,bb,gd⟩:=go.good;have six:=go.six;have one:=go.one;have h3:∀ru∈aa,ru.2.length<=3:=λru h=>(go.ins ru h).2.1;have h8:∀ru∈aa,ru.2.length<=8:=λru h=>by have:=h3 ru h;omega
 have ET:aa≠[]:=λz=>by rw [z] at one;cases one
 have t1:=hT.same s1;intro g x hg hx nx;refine⟨H1,g,x,R0,.eU,rs,[],aa,[],rk,bb,rfl,(af hx _).trans (af (by rw [ai nx.symm];exact hg) _),hg,ae,aG.of eR0,Vh,by omega,h8,ET,.inl ⟨rfl,rfl,rfl⟩,by simp,λru h=>(by cases h),by simp,gd,t1,λbt H2 s2 t2 gv=>⟨rfl,?_⟩⟩;have k2:=Kp.of3 s2 t1;clear s2 t2;obtain⟨gx,fs,R,S2,eg,lr,_,_,_,eR,_,_,_⟩:=gv;refine⟨g,Cg,gx,fs,_,rfl,eg,G.cls,G.a1,lr,?_⟩;have SU:=k2.aa Vh;have DO:=k2.seq (s1.seq hS);have ll:=a_ SU;have To:∀z∈hm aa,z∈di c:=λz hz=>by
  obtain⟨ru,iR,rfl⟩:=cx.mp hz;exact(go.ins ru iR).1
 have lhm:(hm aa).length=aa.length:=av _;refine⟨_,rfl,R,rfl,⟨_,aG.of eR⟩,λN0 hN0=>jU (aG.of eR) SU (by omega) hN0 λH3 s3 eN0=>?_⟩;refine⟨N0,hm aa,rfl,aG.of eN0,by omega,λN zs hN pz _=>?_⟩;have k4:=af hN (.lst (zs.map V.str));have eN:upd H3 N (.lst (zs.map V.str)) N=some (.lst (zs.map V.str)):=ae;generalize upd H3 N (.lst (zs.map V.str))=H4 at k4 eN;have CS:=s3.trans k4;have inZ:∀z∈zs,z∈hm aa:=λz hz=>(HY _ z).mp (pz.mem_iff.mp hz);have lz:zs.length<=6:=by
  have:=pz.length_eq;have:=yL (hm aa);omega
 have Oe:=CS _ _ eR;have EJ:=SU.same CS;have hS4:=CS.seq DO;clear eN0 eR0 Vh DO SU eg lr;refine⟨_,rfl,N,_,rfl,.inl (aG.of eN),_,rfl,by rw [av];omega,by rw [av];omega,?_⟩;rw [av,gI];refine g9 (n:=zs.length) (λi σ H8=>∃(y3 y4 y5 y6:Option V),σ=[aM S,aM R,aM N,y3,y4,y5,y6]/\aB H4 H8) ⟨none,none,none,none,rfl,aB.refl _⟩ ?_ ?_
 .intro i σ H8 hi lC
  ac_nf0
  obtain⟨y3,y4,y5,y6,rfl,s8⟩:=lC;obtain⟨z0,RM⟩:∃z0,zs[i]?=some z0:=⟨zs[i]'hi,b9 hi⟩;have Wf:=inZ z0 (bZ RM);have ZG:z0∈hd aa:=l_.mp Wf;have ati:lQ (zs.map V.str) (0+(i:Int))=some (.str z0):=by
   rw [jY];exact b_ (by rw [bo,RM];rfl)
  refine goN ?_
  ac_rfl
  refine⟨_,rfl,_,rfl,_,rfl,N,_,_,_,rfl,rfl,aG.of (s8 _ _ eN),ati,_,rfl,?_⟩;refine⟨_,rfl,_,_,rfl,rfl,.inl ⟨by decide,by decide⟩,_,_,rfl,rfl,_,rfl,_,rfl,_,_,rfl,rfl,.inl ⟨by decide,by decide⟩,_,_,rfl,rfl,_,rfl,S,_,rfl,s8.seq hS4,λC3 NT=>?_⟩;obtain⟨cs,ecs,_,lcs⟩:=Ia ns (some (8+9 * (0+(i:Int)))) (some (20+9 * (0+(i:Int))));rw [ecs];have k3:=af NT (.lst (cs.map V.int));have Og:upd H8 C3 (.lst (cs.map V.int)) C3=some (.lst (cs.map V.int)):=ae;generalize upd H8 C3 (.lst (cs.map V.int))=H9 at k3 Og;have s9:=s8.trans k3;refine⟨R,C3,rs,aa,di c,cs,z0,rfl,s9 _ _ Oe,EJ.same s9,by omega,h3,(sS c).2,To,go.en,aG.of Og,by omega,Wf,λv t zz ue tv ok aaf=>?_⟩;have dt:=ok.deep;have st:sz t<=29524:=dH ok.size (by decide);refine⟨_,rfl,v,t,rfl,tv,by omega,by omega,λD0 as zd f11 FJ eD0 pd=>?_⟩;have lad:=a_ pd;have Tf:=oF t;refine⟨xB,λa0 ha0=>⟨xB,λL1 hL1=>?_⟩⟩;have k6:=(af ha0 (.tup [V.str "done"])).trans (af hL1 (.lst [V.ref a0]));have IW:upd (upd zd a0 (.tup [V.str "done"])) L1 (.lst [V.ref a0]) a0=some (.tup [.str "done"]):=(af hL1 _) _ _ ae;have HU:upd (upd zd a0 (.tup [V.str "done"])) L1 (.lst [V.ref a0]) L1=some (.lst [V.ref a0]):=ae;generalize upd (upd zd a0 (.tup [V.str "done"])) L1 (.lst [V.ref a0])=vk at k6 IW HU;refine⟨D0,L1,_,_,rfl,rfl,k6 _ _ eD0,HU,fits (by rw [av];show _+1<=1000000;omega),λD hD=>?_⟩;have k7:=af hD (.lst (as.map V.ref++[V.ref a0]));have Kn:upd vk D (.lst (as.map V.ref++[V.ref a0])) D=some (.lst ((as++[a0]).map V.ref)):=by rw [ae,bF];rfl
  generalize upd vk D (.lst (as.map V.ref++[V.ref a0]))=t_ at k7 Kn;have Zx:=k6.trans k7;have MH:=FJ.trans Zx;have Jw:=s9.trans (ue.trans MH);have Ku:Bo aa.length t_ as ((iT t).map De.d):=cq pd λ_ _ z=>Zx _ _ z;have SG:t_ a0=some (.tup [.str "done"]):=k7 _ _ IW;have own:=FY ok.is ZG;have tv7:=gG.keep (λ_ _ z=>MH.tup z) t tv;have Uh:=Ol ok.is;obtain⟨_,⟨k0,xu,et⟩,_⟩:True/\(∃k0 xu,t=.n k0 xu)/\True:=by
   cases t with
   | w z=>have hi:=ok.is;unfold Is at hi;exact absurd (hi.1 ▸ ZG) hi.2
   | n k0 xu=>exact⟨trivial,⟨_,_,rfl⟩,trivial⟩
  clear HU IW eD0 k6 k7 Og tv pd;have lz2:(iT t).length<=29524:=by rw [Tf];exact st
  have lmp:((iT t).map De.d).length=(iT t).length:=av _;have aah:=a_ Ku;refine⟨_,rfl,D,_,rfl,.inl (aG.of Kn),λHd hHd=>?_⟩;have V_:=af hHd (.lst ((as++[a0]).map V.ref));have Of:upd t_ Hd (.lst ((as++[a0]).map V.ref)) Hd=some (.lst ((as++[a0]).map V.ref)):=ae;generalize upd t_ Hd (.lst ((as++[a0]).map V.ref))=Ut at V_ Of;refine⟨_,rfl,R,_,rfl,.inl (aG.of ((Jw.trans V_) _ _ Oe)),λRA W7=>?_⟩;have kA:=af W7 (.lst (rs.map V.ref));have eA:upd Ut RA (.lst (rs.map V.ref)) RA=some (.lst (rs.map V.ref)):=ae;generalize upd Ut RA (.lst (rs.map V.ref))=H15 at kA eA;have V9:=V_.trans kA;have Sb:∀H',aB t_ H'->Bo aa.length H' (as++[a0]) ((iT t).map De.d++[.dn]):=λH' s=>cu (Ku.same s) (.cons (s _ _ SG) .nil);have Oi:∀d∈(iT t).map De.d++[De.dn],IC aa d:=λd h=>by
   rcases cg.mp h with y | y
   .exact Uh d y
   rw [bB.mp y];exact trivial
  refine⟨_,rfl,RA,Hd,rs,as++[a0],aa,(iT t).map De.d++[.dn],rfl,eA,EJ.same (Jw.trans V9),h8,by omega,aG.of (kA _ _ Of),Sb _ V9,Oi,by rw [bp,d8];omega,λH16 YY=>Qm own λv2 OE=>?_⟩;have ZA:=V9.trans YY;refine⟨_,rfl,v2,v,t,rfl,OE,gG.keep (λ_ _ z=>ZA.tup z) t tv7,by omega,by omega,λH17 YX=>?_⟩;have Tj:=ZA.trans YX;refine⟨true,rfl,?_⟩;refine dq ?_;refine⟨_,rfl,_,rfl,Hd,D,_,_,rfl,rfl,aG.of ((kA.trans (YY.trans YX)) _ _ Of),aG.of (Tj _ _ Kn),qe _ λx hx=>Pm.self (Ae _ x hx) 1,false,rfl,?_⟩;refine dq ?_;have Vc:=Jw.trans Tj;refine⟨_,rfl,R,_,rfl,.inl (aG.of (Vc _ _ Oe)),λRB W6=>?_⟩;have kB:=af W6 (.lst (rs.map V.ref));have eB:upd H17 RB (.lst (rs.map V.ref)) RB=some (.lst (rs.map V.ref)):=ae;generalize upd H17 RB (.lst (rs.map V.ref))=H18 at kB eB;refine⟨_,rfl,_,rfl,_,rfl,D,_,rfl,aG.of (kB _ _ (Tj _ _ Kn)),λC4 hC4=>?_⟩;rw [u4];have kC:=af hC4 (.lst (as.map V.ref));have eC:upd H18 C4 (.lst (as.map V.ref)) C4=some (.lst (as.map V.ref)):=ae;generalize upd H18 C4 (.lst (as.map V.ref))=H19 at kC eC;have V8:=Tj.trans (kB.trans kC);refine⟨RB,C4,rs,as,aa,(iT t).map De.d,rfl,kC _ _ eB,EJ.same (Jw.trans V8),h8,by omega,aG.of eC,Ku.same V8,Uh,by omega,λH20 s20=>yf (FX _) ?_⟩;have Zz:=V8.trans s20;refine⟨false,rfl,?_⟩;refine dq ?_;refine⟨_,rfl,R,_,rfl,.inl (aG.of ((Jw.trans Zz) _ _ Oe)),λRC hRC=>?_⟩;have kD:=af hRC (.lst (rs.map V.ref));have eRC:upd H20 RC (.lst (rs.map V.ref)) RC=some (.lst (rs.map V.ref)):=ae;generalize upd H20 RC (.lst (rs.map V.ref))=Yv at kD eRC;refine⟨_,rfl,xB,λa1 EV=>⟨xB,λL2 DQ=>?_⟩⟩;have kE:=(af EV (.tup [V.str "done"])).trans (af DQ (.lst [V.ref a1]));have Km:upd (upd Yv a1 (.tup [V.str "done"])) L2 (.lst [V.ref a1]) a1=some (.tup [.str "done"]):=(af DQ _) _ _ ae;have R8:upd (upd Yv a1 (.tup [V.str "done"])) L2 (.lst [V.ref a1]) L2=some (.lst [V.ref a1]):=ae;generalize upd (upd Yv a1 (.tup [V.str "done"])) L2 (.lst [V.ref a1])=H22 at kE Km R8;have Zy:=Zz.trans (kD.trans kE);refine⟨D,L2,_,_,rfl,rfl,Zy _ _ Kn,R8,fits (by rw [av,bp];show _+1+1<=1000000;omega),λD5 Lv=>?_⟩;have kF:=af Lv (.lst ((as++[a0]).map V.ref++[V.ref a1]));have O6:upd H22 D5 (.lst ((as++[a0]).map V.ref++[V.ref a1])) D5=some (.lst ((as++[a0]++[a1]).map V.ref)):=by rw [ae,bF (l₁:=as++[a0])];rfl
  generalize upd H22 D5 (.lst ((as++[a0]).map V.ref++[V.ref a1]))=H23 at kF O6;have V7:=Zy.trans kF;have dv1:E5 aa.length H23 a1 .dn:=kF _ _ Km;refine⟨RC,D5,rs,as++[a0]++[a1],aa,(iT t).map De.d++[.dn]++[.dn],rfl,kF _ _ (kE _ _ eRC),EJ.same (Jw.trans V7),h8,by omega,aG.of O6,cu (Sb _ V7) (.cons dv1 .nil),(λd h=>?_),by rw [bp,bp,d8];omega,λH24 CS=>yf (C0 _) ?_⟩
  .rcases cg.mp h with y | y
   .exact Oi d y
   rw [bB.mp y];exact trivial
  refine⟨false,rfl,?_⟩;refine dq ?_;have Lk:=V7.trans CS;have Vb:=Jw.trans Lk;refine⟨_,rfl,D,_,rfl,.inl (aG.of (Lk _ _ Kn)),_,_,rfl,rfl,_,rfl,?_⟩;refine cD (λc1=>?_) (λc1=>?_)
  .obtain⟨d0,r,RY⟩:=Ei (k:=k0) (cs:=xu);rw [<-et] at RY;have Kt:=Ku;rw [RY] at Kt;cases as with
   | nil=>cases Kt
   | cons b0 bs =>
   have YG:t_ b0=some (.tup (Ui d0)):=by cases Kt with | cons h _=>exact h
   have XS:Bo aa.length t_ bs (r.map De.d):=by cases Kt with | cons _ h=>exact h
   have vh:lQ ((b0::bs++[a0]).map V.ref) 0=some (.ref b0):=b_ (j:=0) rfl;cases d0 with
   | make kk =>
    refine⟨_,rfl,D,_,_,_,rfl,rfl,aG.of (Lk _ _ Kn),vh,b0,_,_,_,rfl,rfl,aR.of (Lk _ _ YG),rfl,rfl,false,?_,?_⟩
    .show V.bl (decide (_=_))=_;rw [cU (by decide)]
    refine dq ?_;refine dq ?_;exact⟨_,_,_,_,rfl,Vb⟩
   | step z =>
    refine⟨_,rfl,D,_,_,_,rfl,rfl,aG.of (Lk _ _ Kn),vh,b0,_,_,_,rfl,rfl,aR.of (Lk _ _ YG),rfl,rfl,true,?_,?_⟩
    .show V.bl (decide (_=_))=_;rw [bM rfl]
    refine g8 ?_;refine⟨_,rfl,R,_,rfl,.inl (aG.of (Vb _ _ Oe)),λRD hRD=>?_⟩;have kG:=af hRD (.lst (rs.map V.ref));have eRD:upd H24 RD (.lst (rs.map V.ref)) RD=some (.lst (rs.map V.ref)):=ae;generalize upd H24 RD (.lst (rs.map V.ref))=H25 at kG eRD;refine⟨_,rfl,_,rfl,D,_,rfl,aG.of (kG _ _ (Lk _ _ Kn)),λC6 RG=>?_⟩;rw [show b0::bs++[a0]=b0::(bs++[a0]) from rfl,El];have kI:=af RG (.lst ((bs++[a0]).map V.ref));have R_:upd H25 C6 (.lst ((bs++[a0]).map V.ref)) C6=some (.lst ((bs++[a0]).map V.ref)):=ae;generalize upd H25 C6 (.lst ((bs++[a0]).map V.ref))=H26 at kI R_;have Ti:=Lk.trans (kG.trans kI);have dv0:E5 aa.length H26 a0 .dn:=Ti _ _ SG;have lr:r.length+1=(iT t).length:=by rw [RY];rfl
    refine⟨RD,C6,rs,bs++[a0],aa,r.map De.d++[.dn],rfl,kI _ _ eRD,EJ.same (Jw.trans Ti),h8,by omega,aG.of R_,cu (XS.same Ti) (.cons dv0 .nil),(λd h=>Oi d ?_),by rw [bp,av,d8];omega,λH27 P9=>yf (FV ok.is RY) ?_⟩
    .rw [RY];exact cV _ h
    refine⟨false,rfl,?_⟩;refine dq ?_;exact⟨_,_,_,_,rfl,Jw.trans (Ti.trans P9)⟩
  refine dq ?_;exact⟨_,_,_,_,rfl,Vb⟩
 rintro σ H8 ⟨y3,y4,y5,y6,rfl,s8⟩;refine⟨_,rfl,R,_,rfl,.inl (aG.of (s8 _ _ Oe)),λRA W7=>?_⟩;have kA:=af W7 (.lst (rs.map V.ref));have eA:upd H8 RA (.lst (rs.map V.ref)) RA=some (.lst (rs.map V.ref)):=ae;generalize upd H8 RA (.lst (rs.map V.ref))=HA at kA eA;refine⟨rJ,λL0 hL0=>?_⟩;have kB:=af hL0 (.lst []);have eB:upd HA L0 (.lst []) L0=some (.lst []):=ae;generalize upd HA L0 (.lst [])=HB at kB eB;have Vd:=s8.trans (kA.trans kB);refine⟨RA,L0,rs,[],aa,[],rfl,kB _ _ eA,EJ.same Vd,h8,by omega,aG.of eB,.nil,(λd h=>by cases h),by decide,λHC sC=>yf rfl ?_⟩;refine⟨true,rfl,?_⟩;refine g8 ?_;refine⟨_,rfl,R,_,rfl,.inl (aG.of ((Vd.trans sC) _ _ Oe)),λRB W6=>?_⟩;have kC:=af W6 (.lst (rs.map V.ref));have eRB:upd HC RB (.lst (rs.map V.ref)) RB=some (.lst (rs.map V.ref)):=ae;generalize upd HC RB (.lst (rs.map V.ref))=HD at kC eRB;refine⟨xB,λa1 EV=>⟨xB,λL2 DQ=>?_⟩⟩;have kE:=(af EV (.tup [V.str "done"])).trans (af DQ (.lst [V.ref a1]));have Km:upd (upd HD a1 (.tup [V.str "done"])) L2 (.lst [V.ref a1]) a1=some (.tup [.str "done"]):=(af DQ _) _ _ ae;have R8:upd (upd HD a1 (.tup [V.str "done"])) L2 (.lst [V.ref a1]) L2=some (.lst [V.ref a1]):=ae;generalize upd (upd HD a1 (.tup [V.str "done"])) L2 (.lst [V.ref a1])=HE at kE Km R8;have Vc:=Vd.trans (sC.trans (kC.trans kE));refine⟨RB,L2,rs,[a1],aa,[.dn],rfl,kE _ _ eRB,EJ.same Vc,h8,by omega,aG.of R8,.cons Km .nil,(λd h=>by rw [bB.mp h];exact trivial),by decide,λHF sF=>yf rfl ?_⟩;exact q _
end
end gR
namespace L2
open PySem
def xE {C:List Value->Prop}(h:∀a,C [a]):∀us:List Value,us.length=1->C us
 | [a],_=>h a
def CI {C:List Value->Prop}(h:∀a b,C [a,b]):∀us:List Value,us.length=2->C us
 | [a,b],_=>h a b
def Jk {C:List Value->Prop}(h:∀a b c,C [a,b,c]):∀us:List Value,us.length=3->C us
 | [a,b,c],_=>h a b c
def SH {C:List Value->Prop}(h:∀a b c d,C [a,b,c,d]):∀us:List Value,us.length=4->C us
 | [a,b,c,d],_=>h a b c d
def YH {C:List Value->Prop}(h:∀a b c d e,C [a,b,c,d,e]):∀us:List Value,us.length=5->C us
 | [a,b,c,d,e],_=>h a b c d e
def d5 (K:a8)(x:Str)(st:Stmt):Prop:=∃(g:Addr)(oc:Value)(od an:Option Addr)(sl:Array (Option Value))(kV dc pm cd ct:Value),PySem.W.nsIn K mainGlobals x=some (some (.ref g)) /\
 K.lookup g=some ⟨oc,od,.func (PySem.W.fnOf x x (dA st) (cv st) (ay st) .none kV dc pm an cd ct),sl⟩/\PySem.W.codeIn K cd x=true/\PySem.W.keepIn K (.ref g)=true
def d5.get {K:a8}{h:Heap}{mg:Str->Option Value}{x:Str}{st:Stmt}(X:K.In h)(G:h.Ns mainGlobals mg)(H:d5 K x st):∃g gd,ix K x x st g gd/\mg x=some (.ref g):=by
 obtain⟨g,oc,od,an,sl,kV,dc,pm,cd,ct,a,l,c,k⟩:=H;exact⟨g,_,HG (st:=st) l c k,oQ X G a⟩
def EF (K:a8)(x:Str)(st:Stmt)(T:Addr):Prop:=∃(g:Addr)(oc:Value)(od an:Option Addr)(sl:Array (Option Value))(kV dc pm:Value)(c:Addr)(ct:Value),PySem.W.nsIn K mainGlobals x=some (some (.ref g)) /\
 K.lookup g=some ⟨oc,od,.func (PySem.W.fnOf x x (dA st) (cv st) (ay st) .none kV dc pm an (.ref c) ct),sl⟩/\PySem.W.codeIn K (.ref c) x=true/\PySem.W.codeHdIn K c T=true/\PySem.W.keepIn K (.ref g)=true
def EF.get {K:a8}{h:Heap}{mg:Str->Option Value}{x:Str}{st:Stmt}{T:Addr}(X:K.In h)(G:h.Ns mainGlobals mg)(H:EF K x st T):∃g gd,ze K x x st g gd T/\mg x=some (.ref g):=by
 obtain⟨g,oc,od,an,sl,kV,dc,pm,c,ct,a,l,d,e,k⟩:=H;exact⟨g,_,⟨⟨oc,od,kV,dc,pm,an,c,ct,sl,rfl,l,d,e⟩,k⟩,oQ X G a⟩
def ze.binds {K:a8}{x qual:Str}{st:Stmt}{f T:Addr}{fd:FuncData}{ps:List Str}(F:ze K x qual st f fd T)
  (h:∀(kV doc pm:Value)(an:Option Addr)(eJ ct:Value)(us:List Value),us.length=ps.length->bindArgs (PySem.W.fnOf x qual (dA st) (cv st) (ay st) .none kV doc pm an eJ ct) ⟨us,[]⟩=pure (ps.zip us)):Binds K fd ps []:=by
 obtain⟨oc,od,kV,doc,pm,an,c,ct,wG,rfl,lk,wY,_⟩:=F.ex;exact .all (h kV doc pm an (.ref c) ct)
def Bn (K:a8)(C:Addr)(m qual:Str)(st:Stmt):Prop:=∃(g:Addr)(oc:Value)(od an:Option Addr)(sl:Array (Option Value))(kV dc pm cd ct:Value),PySem.W.findIn K (.ref C) m=some (some (.ref g)) /\
 K.lookup g=some ⟨oc,od,.func (PySem.W.fnOf m qual (dA st) (cv st) (ay st) .none kV dc pm an cd ct),sl⟩/\PySem.W.codeIn K cd qual=true/\PySem.W.keepIn K (.ref g)=true/\PySem.W.isFn K (.ref g)=true
def Bn.get {K:a8}{C:Addr}{m qual:Str}{st:Stmt}(H:Bn K C m qual st):∃g gd,ix K m qual st g gd/\Meth K C m g:=by
 obtain⟨g,oc,od,an,sl,kV,dc,pm,cd,ct,a,l,c,k,i⟩:=H;exact⟨g,_,HG (st:=st) l c k,⟨a,i,k⟩⟩
def d5.c {K:a8}{h:Heap}{mg:Str->Option Value}{x:Str}{st:Stmt}{P:Program}{w:World}{base:Heap}{k:Nat}{ps:List Str}{sp:Sp}(H:d5 K x st)(X:K.In h)(G:h.Ns mainGlobals mg)
  (b:∀(kV doc pm:Value)(an:Option Addr)(eJ ct:Value)(us:List Value),us.length=ps.length->bindArgs (PySem.W.fnOf x x (dA st) (cv st) (ay st) .none kV doc pm an eJ ct) ⟨us,[]⟩=pure (ps.zip us))
  (o:∀{f:Addr}{fd:FuncData},ix K x x st f fd->mg x=some (.ref f)->Binds K fd ps []->bQ P w K mg base fX k f fd ps sp):aE P w K mg base k x ps sp:=by
 obtain⟨f,fd,F,m⟩:=H.get X G;have B:=F.binds b;exact⟨f,fd,o F m B,B,F.kp,m⟩
def hD {K:a8}{x:Str}{st:Stmt}(g c:Addr)(pm:Value)(h:(PySem.W.nsIn K mainGlobals x,K.lookup g,PySem.W.codeIn K (.ref c) x,PySem.W.keepIn K (.ref g))=(some (some (.ref g)),some ⟨.type "function",none,.func (PySem.W.fnOf x x (dA st) (cv st) (ay st) .none .none .none pm none (.ref c) .none),#[]⟩,true,true)):d5 K x st:=by
 simp only [qX] at h;exact⟨g,_,_,_,_,_,_,_,_,_,h.1,h.2.1,h.2.2.1,h.2.2.2⟩
def hC {K:a8}{x:Str}{st:Stmt}{T:Addr}(g c:Addr)(pm:Value)(h:(PySem.W.nsIn K mainGlobals x,K.lookup g,PySem.W.codeIn K (.ref c) x,PySem.W.codeHdIn K c T,PySem.W.keepIn K (.ref g))=(some (some (.ref g)),some ⟨.type "function",none,.func (PySem.W.fnOf x x (dA st) (cv st) (ay st) .none .none .none pm none (.ref c) .none),#[]⟩,true,true,true)):EF K x st T:=by
 simp only [qX] at h;exact⟨g,_,_,_,_,_,_,_,c,_,h.1,h.2.1,h.2.2.1,h.2.2.2.1,h.2.2.2.2⟩
def hM {K:a8}{C:Addr}{m qual:Str}{st:Stmt}(g c:Addr)(pm:Value)(h:(PySem.W.findIn K (.ref C) m,K.lookup g,PySem.W.codeIn K (.ref c) qual,PySem.W.keepIn K (.ref g),PySem.W.isFn K (.ref g))=(some (some (.ref g)),some ⟨.type "function",none,.func (PySem.W.fnOf m qual (dA st) (cv st) (ay st) .none .none .none pm none (.ref c) .none),#[]⟩,true,true,true)):Bn K C m qual st:=by
 simp only [qX] at h;exact⟨g,_,_,_,_,_,_,_,_,_,h.1,h.2.1,h.2.2.1,h.2.2.2.1,h.2.2.2.2⟩
end L2
namespace gR
open PySem L2 M11
def OB (K:a8)(C:Addr)(m qual:Str)(st:Stmt):Prop:=∃(g:Addr)(oc:Value)(od an:Option Addr)(sl:Array (Option Value))(kV dc pm cd ct:Value)(T:Addr)(o:Obj) (n:Nat),PySem.W.findIn K (.ref C) m=some (some (.ref g)) /\
 K.lookup g=some ⟨oc,od,.func (PySem.W.fnOf m qual (dA st) (cv st) (ay st) (.ref T) kV dc pm an cd ct),sl⟩/\PySem.W.codeIn K cd qual=true/\K.lookup T=some o/\o.data=.seq #[.none] n/\PySem.W.keepIn K (.ref g)=true/\PySem.W.isFn K (.ref g)=true
def OB.get {K:a8}{C:Addr}{m qual:Str}{st:Stmt}(H:OB K C m qual st):∃g gd,Iz K m qual st g gd/\PySem.W.findIn K (.ref C) m=some (some (.ref g))/\PySem.W.isFn K (.ref g)=true:=by
 obtain⟨g,oc,od,an,sl,kV,dc,pm,cd,ct,T,o,n,a,l,c,t,d,k,i⟩:=H;exact⟨g,_,⟨⟨oc,od,kV,dc,pm,an,cd,ct,sl,T,o,n,rfl,l,c,t,d⟩,k⟩,a,i⟩
structure Top (K:a8)(C Cg C3 T1 T2 T3:Addr)(tm:Tok):Prop where
 nB:PySem.W.nsIn K mainGlobals "BeginTable"=some (some (.ref C))
 nG:PySem.W.nsIn K mainGlobals "Grammar"=some (some (.ref Cg))
 nL:PySem.W.nsIn K mainGlobals "LeastTrees"=some (some (.ref C3))
 nM:PySem.W.nsIn K mainGlobals "MOST_RULES"=some (some (.int 60 tm))
 Uw:PySem.W.nsIn K mainGlobals "set"=some none
 Bp:PySem.W.nsIn K mainGlobals "sorted"=some none
 h0:d5 K "heads_of" z5
 h1:d5 K "numbers_by_name" Fy
 h2:d5 K "standings_by_part" Mx
 h3:d5 K "rule_size" pC
 h4:d5 K "empty_by_name" sg
 h5:d5 K "words_in" zT
 h6:d5 K "found_empties" sj
 h7:d5 K "first_places" wc
 h8:d5 K "way_back" Mw
 h9:d5 K "steps_with_like_rows" zW
 h10:d5 K "find_loop" FA
 h11:d5 K "refuse_twice" zU
 h12:d5 K "names_met" My
 h13:d5 K "_law_cell_at" FI
 h14:d5 K "_law_digits" wu
 Xj:d5 K "_law_names" zY
 h16:d5 K "_law_words" v_
 h17:d5 K "_law_more" Fz
 h18:d5 K "_law_skeleton" Fx
 h19:d5 K "_law_ended" z6
 h20:d5 K "_law_good" FE
 h21:d5 K "_law_grammar" FD
 h22:d5 K "is_number_below" z7
 h23:d5 K "is_child" sf
 h24:d5 K "do_step" wo
 h25:d5 K "do_make" wq
 h26:d5 K "do_deed" wt
 h27:d5 K "tree_of" wa
 h28:d5 K "_law_deeds" wy
 h29:d5 K "_law_least" wg
 h30:d5 K "_law_tree" zV
 h31:d5 K "_law_drawn_tree" wm
 h32:d5 K "_law_is" U7
 WL:d5 K "law" Mz
 Wu:d5 K "settled_sizes" nV
 WB:d5 K "refuse_faults" wb
 hL:EF K "least_sizes" r_ T1
 hG:EF K "greatest_empty_sizes" wj T2
 hLB:EF K "least_by_part" nW T3
 mL1:Bn K C3 "__init__" "LeastTrees.__init__" zZ
 mB1:Bn K C "__init__" "BeginTable.__init__" z9
 mB2:Bn K C "find_begins" "BeginTable.find_begins" FH
 mB3:Bn K C "words_of_part" "BeginTable.words_of_part" zX
 mG1:OB K Cg "__init__" "Grammar.__init__" wk
 pgB:PySem.W.plainGet K C Str.empty=true
 hdB:PySem.W.hasDictIn K C=true
 poB:PySem.W.plainOver K C=true
 saB:PySem.W.findIn K (.ref C) "__setattr__"=some (some (.builtin "object.__setattr__"))
 mkB:PySem.W.makesIn K C=true
 G8:PySem.W.keepIn K (.ref C)=true
 pgG:PySem.W.plainGet K Cg Str.empty=true
 hdG:PySem.W.hasDictIn K Cg=true
 poG:PySem.W.plainOver K Cg=true
 saG:PySem.W.findIn K (.ref Cg) "__setattr__"=some (some (.builtin "object.__setattr__"))
 mkG:PySem.W.makesIn K Cg=true
 kpG:PySem.W.keepIn K (.ref Cg)=true
 pgL:PySem.W.plainGet K C3 Str.empty=true
 hdL:PySem.W.hasDictIn K C3=true
 poL:PySem.W.plainOver K C3=true
 saL:PySem.W.findIn K (.ref C3) "__setattr__"=some (some (.builtin "object.__setattr__"))
 mkL:PySem.W.makesIn K C3=true
 kpL:PySem.W.keepIn K (.ref C3)=true
 Bh:PySem.W.findIn K (.ref C) "empties"=some none
 Im:PySem.W.findIn K (.ref C) "empty"=some none
 ED:PySem.W.findIn K (.ref C) "begins"=some none
 EC:PySem.W.findIn K (.ref C) "firsts"=some none
 Ii:PySem.W.findIn K (.ref C3) "rules"=some none
 Ik:PySem.W.findIn K (.ref C3) "empty"=some none
 Ij:PySem.W.findIn K (.ref C3) "least"=some none
 EB:PySem.W.findIn K (.ref C3) "hollow"=some none
 ur:PySem.W.findIn K (.ref C3) "beginnings"=some none
 Il:PySem.W.findIn K (.ref Cg) "rules"=some none
 xl:PySem.W.findIn K (.ref Cg) "strengths"=some none
 tQ:PySem.W.findIn K (.ref Cg) "begin_table"=some none
 xm:PySem.W.findIn K (.ref Cg) "standings"=some none
 tP:PySem.W.findIn K (.ref Cg) "small_trees"=some none
 Uz:PySem.W.nsIn K mainGlobals "len"=some none
 L_:PySem.W.nsIn K mainGlobals "range"=some none
 xC:PySem.W.nsIn K mainGlobals "isinstance"=some none
 LZ:PySem.W.nsIn K mainGlobals "tuple"=some none
 Po:PySem.W.nsIn K mainGlobals "list"=some none
 Pp:PySem.W.nsIn K mainGlobals "dict"=some none
 UC:PySem.W.nsIn K mainGlobals "all"=some none
 UB:PySem.W.nsIn K mainGlobals "any"=some none
 Uv:PySem.W.nsIn K mainGlobals "str"=some none
 UA:PySem.W.nsIn K mainGlobals "int"=some none
 Pq:PySem.W.nsIn K mainGlobals "bool"=some none
 zH:PySem.W.nsIn K mainGlobals "enumerate"=some none
 Uu:PySem.W.nsIn K mainGlobals "sum"=some none
 Uy:PySem.W.nsIn K mainGlobals "max"=some none
 Ux:PySem.W.nsIn K mainGlobals "min"=some none
def all_mk {l:PySem.W.OpenLaw}{w:World}{K:a8}{h:Heap}{mg:Str->Option Value}{fa C Cg C3 T1 T2 T3:Addr}{tm:Tok}(X:K.In h)(G:h.Ns mainGlobals mg)(hfa:mg "law"=some (.ref fa))(tp:Top K C Cg C3 T1 T2 T3 tm) :
  ∃fd:FuncData,(∀(s:Shared)(v:Value),BindsTo s fd ⟨[v],[]⟩ [("_law_script",v)])/\∀base:Heap,K.In base->base.Ns mainGlobals mg->tV mg base->bQ l.prog w K mg base fX 12 fa fd ["_law_script"] (BM K T1 T2 T3):=by
 have T:Txt mg:=⟨gX X G tp.Uz,gX X G tp.L_,gX X G tp.xC,gX X G tp.LZ,gX X G tp.Po,gX X G tp.Pp,gX X G tp.UC,gX X G tp.UB,gX X G tp.Uv,gX X G tp.UA,gX X G tp.Pq,gX X G tp.zH,gX X G tp.Uu,gX X G tp.Uy,gX X G tp.Ux⟩;obtain⟨Lz,LM,zf,Lb⟩:=tp.Wu.get X G;have LR:=zf.binds (ps:=["rules","sizes","better"]) λ_ _ _ _ _ _=>by exact Jk λ_ _ _=>rfl
 obtain⟨RL,Sd,IB,Qx⟩:=tp.WB.get X G;have Sk:=IB.binds (ps:=["rules","strengths"]) λ_ _ _ _ _ _=>by exact CI λ_ _=>rfl
 obtain⟨f_L,d_L,Yw,m_L⟩:=tp.hL.get X G;have b_L:=Yw.binds (ps:=["rules"]) λ_ _ _ _ _ _=>by exact xE λ_=>rfl
 obtain⟨f_G,d_G,Yx,m_G⟩:=tp.hG.get X G;have b_G:=Yx.binds (ps:=["rules"]) λ_ _ _ _ _ _=>by exact xE λ_=>rfl
 obtain⟨Xl,XU,OC,VO⟩:=tp.hLB.get X G;have X9:=OC.binds (ps:=["rules"]) λ_ _ _ _ _ _=>by exact xE λ_=>rfl
 obtain⟨Xo,aaw,SA,QA⟩:=tp.mB1.get;have Yd:=SA.binds (ps:=["self","rules"]) λ_ _ _ _ _ _=>by exact CI λ_ _=>rfl
 obtain⟨aaq,aav,Sz,VR⟩:=tp.mB2.get;have Yc:=Sz.binds (ps:=["self","number","rule"]) λ_ _ _ _ _ _=>by exact Jk λ_ _ _=>rfl
 obtain⟨aap,aau,Sy,VQ⟩:=tp.mB3.get;have Yb:=Sy.binds (ps:=["self","part"]) λ_ _ _ _ _ _=>by exact CI λ_ _=>rfl
 obtain⟨Xm,aas,Sw,Qz⟩:=tp.mL1.get;have X_:=Sw.binds (ps:=["self","rules","begin_table"]) λ_ _ _ _ _ _=>by exact Jk λ_ _ _=>rfl
 obtain⟨Xn,aat,Sx,VP,Wb⟩:=tp.mG1.get;have cB:BC K C:=⟨⟨tp.pgB,tp.hdB,tp.poB,tp.saB⟩,tp.Bh,tp.Im,tp.ED,tp.EC⟩;have cG:GC K Cg:=⟨⟨tp.pgG,tp.hdG,tp.poG,tp.saG⟩,tp.Il,tp.xl,tp.tQ,tp.xm,tp.tP⟩;have cL:LC K C3:=⟨⟨tp.pgL,tp.hdL,tp.poL,tp.saL⟩,tp.Ii,tp.Ik,tp.Ij,tp.EB,tp.ur⟩;have kL:Mk K C3 Xm:=⟨tp.mkL,Qz.at_,Qz.fn,tp.kpL⟩;have kB:Mk K C Xo:=⟨tp.mkB,QA.at_,QA.fn,tp.G8⟩;have kG:Mk K Cg Xn:=⟨tp.mkG,VP,Wb,tp.kpG⟩;obtain⟨f9,d9,F9,m9⟩:=tp.WL.get X G;have e:=hfa.symm.trans m9;cases e;obtain⟨oc,od,kV,doc,pm,an,eJ,ct,wG,eL,lk,wY⟩:=F9.ex;refine⟨d9,λs v=>?_,λbase _ _ RH=>?_⟩
 .rw [eL];exact .of_eq rfl
 have c0:=tp.h0.c (P:=l.prog) (w:=w) (base:=base) X G (λ_ _ _ _ _ _=>by exact xE λ_=>rfl) λF m B=>Gu F T;have c1:=tp.h1.c (P:=l.prog) (w:=w) (base:=base) X G (λ_ _ _ _ _ _=>by exact xE λ_=>rfl) λF m B=>JK F T c0;have c2:=tp.h2.c (P:=l.prog) (w:=w) (base:=base) X G (λ_ _ _ _ _ _=>by exact xE λ_=>rfl) λF m B=>MZ F T;have c3:=tp.h3.c (P:=l.prog) (w:=w) (base:=base) X G (λ_ _ _ _ _ _=>by exact CI λ_ _=>rfl) λF m B=>yh F T;have c4:=tp.h4.c (P:=l.prog) (w:=w) (base:=base) X G (λ_ _ _ _ _ _=>by exact CI λ_ _=>rfl) λF m B=>Au F T;have c5:=tp.h5.c (P:=l.prog) (w:=w) (base:=base) X G (λ_ _ _ _ _ _=>by exact xE λ_=>rfl) λF m B=>Gj F T;have c6:=tp.h6.c (P:=l.prog) (w:=w) (base:=base) X G (λ_ _ _ _ _ _=>by exact xE λ_=>rfl) λF m B=>Av F T;have c7:=tp.h7.c (P:=l.prog) (w:=w) (base:=base) X G (λ_ _ _ _ _ _=>by exact CI λ_ _=>rfl) λF m B=>Dj F T;have c8:=tp.h8.c (P:=l.prog) (w:=w) (base:=base) X G (λ_ _ _ _ _ _=>by exact Jk λ_ _ _=>rfl) λF m B=>MY F T;have c9:=tp.h9.c (P:=l.prog) (w:=w) (base:=base) X G (λ_ _ _ _ _ _=>by exact xE λ_=>rfl) λF m B=>Gn F T c6 c0;have c10:=tp.h10.c (P:=l.prog) (w:=w) (base:=base) X G (λ_ _ _ _ _ _=>by exact xE λ_=>rfl) λF m B=>JM F T c9 c8;have c11:=tp.h11.c (P:=l.prog) (w:=w) (base:=base) X G (λ_ _ _ _ _ _=>by exact xE λ_=>rfl) λF m B=>Gk F T;have c12:=tp.h12.c (P:=l.prog) (w:=w) (base:=base) X G (λ_ _ _ _ _ _=>by exact xE λ_=>rfl) λF m B=>M3 F T;have Ja:=tp.h13.c (P:=l.prog) (w:=w) (base:=base) X G (λ_ _ _ _ _ _=>by exact CI λ_ _=>rfl) λF m B=>JQ F T;have c14:=tp.h14.c (P:=l.prog) (w:=w) (base:=base) X G (λ_ _ _ _ _ _=>by exact Jk λ_ _ _=>rfl) λF m B=>Dq F T;have X4:=tp.Xj.c (P:=l.prog) (w:=w) (base:=base) X G (λ_ _ _ _ _ _=>by exact xE λ_=>rfl) λF m B=>Gq F T;have c16:=tp.h16.c (P:=l.prog) (w:=w) (base:=base) X G (λ_ _ _ _ _ _=>by exact xE λ_=>rfl) λF m B=>Dg F T;have c17:=tp.h17.c (P:=l.prog) (w:=w) (base:=base) X G (λ_ _ _ _ _ _=>by exact YH λ_ _ _ _ _=>rfl) λF m B=>JL F T (Ja.mono (by decide)) (c14.mono (by decide));have c18:=tp.h18.c (P:=l.prog) (w:=w) (base:=base) X G (λ_ _ _ _ _ _=>by exact SH λ_ _ _ _=>rfl) λF m B=>JJ F T (Ja.mono (by decide)) (c14.mono (by decide));have c19:=tp.h19.c (P:=l.prog) (w:=w) (base:=base) X G (λ_ _ _ _ _ _=>by exact CI λ_ _=>rfl) λF m B=>Gx F T;have c20:=tp.h20.c (P:=l.prog) (w:=w) (base:=base) X G (λ_ _ _ _ _ _=>by exact xE λ_=>rfl) λF m B=>JO F T (c19.mono (by decide));have c21:=tp.h21.c (P:=l.prog) (w:=w) (base:=base) X G (λ_ _ _ _ _ _=>by exact CI λ_ _=>rfl) λF m B=>JN F T (Ja.mono (by decide)) (X4.mono (by decide)) (c16.mono (by decide)) (c18.mono (by decide)) (c17.mono (by decide)) (c20.mono (by decide));have c22:=tp.h22.c (P:=l.prog) (w:=w) (base:=base) X G (λ_ _ _ _ _ _=>by exact CI λ_ _=>rfl) λF m B=>GA F T;have c23:=tp.h23.c (P:=l.prog) (w:=w) (base:=base) X G (λ_ _ _ _ _ _=>by exact SH λ_ _ _ _=>rfl) λF m B=>Gy F T;have c24:=tp.h24.c (P:=l.prog) (w:=w) (base:=base) X G (λ_ _ _ _ _ _=>by exact Jk λ_ _ _=>rfl) λF m B=>Dm F T;have c25:=tp.h25.c (P:=l.prog) (w:=w) (base:=base) X G (λ_ _ _ _ _ _=>by exact SH λ_ _ _ _=>rfl) λF m B=>Dn F T (c22.mono (by decide)) (c23.mono (by decide));have c26:=tp.h26.c (P:=l.prog) (w:=w) (base:=base) X G (λ_ _ _ _ _ _=>by exact SH λ_ _ _ _=>rfl) λF m B=>Dp F T (c24.mono (by decide)) (c25.mono (by decide));have c27:=tp.h27.c (P:=l.prog) (w:=w) (base:=base) X G (λ_ _ _ _ _ _=>by exact CI λ_ _=>rfl) λF m B=>Dh F T (c0.mono (by decide)) (c26.mono (by decide));have c28:=tp.h28.c (P:=l.prog) (w:=w) (base:=base) X G (λ_ _ _ _ _ _=>by exact xE λ_=>rfl) λF m B=>uM F T B m 10;have c29:=tp.h29.c (P:=l.prog) (w:=w) (base:=base) X G (λ_ _ _ _ _ _=>by exact xE λ_=>rfl) λF m B=>Dk F T;have c30:=tp.h30.c (P:=l.prog) (w:=w) (base:=base) X G (λ_ _ _ _ _ _=>by exact YH λ_ _ _ _ _=>rfl) λF m B=>yg F T B m 7;have c31:=tp.h31.c (P:=l.prog) (w:=w) (base:=base) X G (λ_ _ _ _ _ _=>by exact Jk λ_ _ _=>rfl) λF m B=>Dl F T (c29.mono (by decide)) (c30.mono (by decide)) (c28.mono (by decide));have c32:=tp.h32.c (P:=l.prog) (w:=w) (base:=base) X G (λ_ _ _ _ _ _=>by exact CI λ_ _=>rfl) λF m B=>K7 F T B m 10;have X0:aE l.prog w K mg base 2 "settled_sizes" ["rules","sizes","better"] (iH K zq sH.1 sH.2.1 sH.2.2.1 M11.bl):=⟨Lz,LM,Aq zf T,LR,zf.kp,Lb⟩;have X1:aE l.prog w K mg base 2 "settled_sizes" ["rules","sizes","better"] (iH K Lc AD.1 AD.2.1 AD.2.2.1 M11.bg):=⟨Lz,LM,Ar zf T,LR,zf.kp,Lb⟩;have c_L:aE l.prog w K mg base 3 "least_sizes" ["rules"] (qF K T1):=⟨f_L,d_L,Gs Yw T RH c5 X0,b_L,Yw.kp,m_L⟩;have c_G:aE l.prog w K mg base 3 "greatest_empty_sizes" ["rules"] (vW K T2):=⟨f_G,d_G,Gv Yx RH X1,b_G,Yx.kp,m_G⟩;have Sg:aE l.prog w K mg base 4 "refuse_faults" ["rules","strengths"] (rQ K T1 T2):=⟨RL,Sd,Di IB T (oQ X G tp.nM) c11 c_L c0 c12 c10 c_G,Sk,IB.kp,Qx⟩;have X3:aE l.prog w K mg base 4 "least_by_part" ["rules"] (pj K T1 T3):=⟨Xl,XU,As OC T RH (gX X G tp.Bp) (c0.mono (by decide)) c_L (c1.mono (by decide)) (c3.mono (by decide)),X9,OC.kp,VO⟩;have Vt:=Gp (P:=l.prog) (w:=w) (base:=base) Sy T cB;have Vu:=JP Sz T cB c7 Vt VQ Yb;have Vv:=Gz SA T cB c6 c0 Vu VR Yc;have Vr:=Gr Sw T cB cL X3 (c4.mono (by decide));have Vs:=Gw Sx T cG (Sg.mono (by decide)) (c2.mono (by decide)) (Vv.mono (by decide)) kB Yd (oQ X G tp.nB) Vr kL X_ (oQ X G tp.nL);exact M4 F9 T (gX X G tp.Bp) (gX X G tp.Uw) (c21.mono (by decide)) (c31.mono (by decide)) (c28.mono (by decide)) (c32.mono (by decide)) (c27.mono (by decide)) cG kG (Vs.mono (by decide)) (Hy Sx) (oQ X G tp.nG)
def walk {l:PySem.W.OpenLaw}{q:Program}{loose:List Str}{XP:(Str->Option Value)->Heap->Prop}{YP:World->Heap->Prop}{d:DefRec}{K:Params->a8}(T1 T2 T3 c1 c2 c3:Addr)(K_:T1≠T2)(K9:T1≠T3)(K8:T2≠T3)(hn:l.most=some 63)(NI:d.params.defaults=[])
  (hY:∀(w:World)(h:Heap),YP w h->(K w.params).In h/\∀T∈[T3,T2,T1],h.get? T=some (PySem.W.tabObj #[]))
  (hK1:∀w:World,(K w.params).lookup T1=none)(hK2:∀w:World,(K w.params).lookup T2=none)(hK3:∀w:World,(K w.params).lookup T3=none)(TV:∀w:World,PySem.W.codeHdIn (K w.params) c1 T1=true)(IT:∀w:World,PySem.W.codeHdIn (K w.params) c2 T2=true)(NT:∀w:World,PySem.W.codeHdIn (K w.params) c3 T3=true)
  (F:∀(w:World)(mg:Str->Option Value)(fa:Addr)(h:Heap),(K w.params).In h->h.Ns mainGlobals mg->mg d.name=some (.ref fa) ->
   ∃fd:FuncData,(∀(s:Shared)(u:Value),BindsTo s fd ⟨[u],[]⟩ [("_law_script",u)])/\∀base:Heap,(K w.params).In base->base.Ns mainGlobals mg->tV mg base->bQ l.prog w (K w.params) mg base fX 12 fa fd ["_law_script"] (BM (K w.params) T1 T2 T3)) :
  PySem.W.WalkO q loose XP YP l.row.toRowW d [] (λf vs=>PySem.call f vs) :=
 L2.E9 (n:=63) (k:=12) (x := "_law_script") (CX:=λ_=>fX) (sp:=λw=>BM (K w.params) T1 T2 T3) hn (by decide) NI ⟨rfl,by decide,by decide⟩ hY (λw T hT=>by
  rcases bX.mp hT with e | hT
  .subst e;exact⟨hK3 w,c3,NT w⟩
  rcases bX.mp hT with e | hT
  .subst e;exact⟨hK2 w,c2,IT w⟩
  rw [bB.mp hT];exact⟨hK1 w,c1,TV w⟩) F (λ_ H a ns hl _ hT hS=>⟨a,ns,rfl,hS,hl,⟨⟨#[],hT T1 (by simp),by trivial,.inl rfl⟩,⟨#[],hT T2 (by simp),by trivial,.inl rfl⟩,⟨#[],hT T3 (by simp),by trivial,.inl rfl⟩,K_,K9,K8⟩,λ_=>rfl⟩) λ_ _ _ _ _ z=>z
end gR
set_option maxHeartbeats 0
end
namespace HD
open PySem PySem.W L2
def UN (P:Params):gR.Top (K P) 145 407 378 288 293 322 591:=⟨by kernel_rfl,
 by kernel_rfl,
 by kernel_rfl,
 by kernel_rfl,
 by kernel_rfl,
 by kernel_rfl,
 hD 26 25 HD.m1 (by kernel_rfl),
 hD 36 35 HD.m1 (by kernel_rfl),
 hD 43 42 HD.m1 (by kernel_rfl),
 hD 330 329 HD.m8 (by kernel_rfl),
 hD 335 334 HD.m8 (by kernel_rfl),
 hD 31 30 HD.m1 (by kernel_rfl),
 hD 88 87 HD.m3 (by kernel_rfl),
 hD 95 94 HD.m3 (by kernel_rfl),
 hD 286 285 HD.m5 (by kernel_rfl),
 hD 279 278 HD.m5 (by kernel_rfl),
 hD 274 273 HD.m5 (by kernel_rfl),
 hD 315 314 HD.m7 (by kernel_rfl),
 hD 320 319 HD.m7 (by kernel_rfl),
 hD 418 417 HD.mX (by kernel_rfl),
 hD 437 436 HD.mX (by kernel_rfl),
 hD 423 422 HD.mX (by kernel_rfl),
 hD 430 429 HD.mX (by kernel_rfl),
 hD 451 450 HD.mX (by kernel_rfl),
 hD 444 443 HD.mX (by kernel_rfl),
 hD 456 455 HD.mX (by kernel_rfl),
 hD 461 460 HD.mX (by kernel_rfl),
 hD 468 467 HD.mX (by kernel_rfl),
 hD 50 49 HD.m1 (by kernel_rfl),
 hD 83 82 HD.m2 (by kernel_rfl),
 hD 69 68 HD.m2 (by kernel_rfl),
 hD 76 75 HD.m2 (by kernel_rfl),
 hD 62 61 HD.m2 (by kernel_rfl),
 hD 55 54 HD.m2 (by kernel_rfl),
 hD 487 486 HD.mX (by kernel_rfl),
 hD 473 472 HD.mX (by kernel_rfl),
 hD 480 479 HD.mX (by kernel_rfl),
 hD 492 491 HD.mX (by kernel_rfl),
 hD 497 496 HD.mX (by kernel_rfl),
 hD 502 501 HD.mX (by kernel_rfl),
 hD 303 302 HD.m6 (by kernel_rfl),
 hD 308 307 HD.m7 (by kernel_rfl),
 hC 291 290 HD.m6 (by kernel_rfl),
 hC 298 297 HD.m6 (by kernel_rfl),
 hC 325 324 HD.m8 (by kernel_rfl),
 hM 347 346 HD.m8 (by kernel_rfl),
 hM 107 106 HD.m3 (by kernel_rfl),
 hM 114 113 HD.m3 (by kernel_rfl),
 hM 121 120 HD.m3 (by kernel_rfl),
 ⟨397,.type "function",none,none,#[],.none,.none,.str "wright.grammars" 702,.ref 396,.none,390,⟨.type "tuple",none,.seq #[.none] 0,#[]⟩,0,by kernel_rfl,by kernel_rfl,by kernel_rfl,by kernel_rfl,rfl,by kernel_rfl,by kernel_rfl⟩,
 by kernel_rfl,
 by kernel_rfl,
 by kernel_rfl,
 by kernel_rfl,
 by kernel_rfl,
 by kernel_rfl,
 by kernel_rfl,
 by kernel_rfl,
 by kernel_rfl,
 by kernel_rfl,
 by kernel_rfl,
 by kernel_rfl,
 by kernel_rfl,
 by kernel_rfl,
 by kernel_rfl,
 by kernel_rfl,
 by kernel_rfl,
 by kernel_rfl,
 by kernel_rfl,
 by kernel_rfl,
 by kernel_rfl,
 by kernel_rfl,
 by kernel_rfl,
 by kernel_rfl,
 by kernel_rfl,
 by kernel_rfl,
 by kernel_rfl,
 by kernel_rfl,
 by kernel_rfl,
 by kernel_rfl,
 by kernel_rfl,
 by kernel_rfl,
 by kernel_rfl,
 by kernel_rfl,
 by kernel_rfl,
 by kernel_rfl,
 by kernel_rfl,
 by kernel_rfl,
 by kernel_rfl,
 by kernel_rfl,
 by kernel_rfl,
 by kernel_rfl,
 by kernel_rfl,
 by kernel_rfl,
 by kernel_rfl,
 by kernel_rfl,
 by kernel_rfl⟩
end HD
theorem PySem.Challenge.cw_wright_k67_trees_of_deeds_holds : PySem.Challenge.rw_wright_k67_trees_of_deeds.Holds := by
 refine HD.hold ?_ ?hw
 case hw=>w_witness2
 refine gR.walk (l:=PySem.Challenge.rw_wright_k67_trees_of_deeds) (K:=HD.K) 288 293 322 290 297 324 (by decide) (by decide) (by decide) rfl HD.ok5 (λw h Y=>⟨PySem.W.km_in_of Y,PySem.W.km_tabs_of Y⟩) (λw=>by kernel_rfl) (λw=>by kernel_rfl) (λw=>by kernel_rfl) (λw=>by kernel_rfl) (λw=>by kernel_rfl) (λw=>by kernel_rfl) ?F;intro w mg fa h KX G Nz;exact gR.all_mk KX G Nz (HD.UN w.params)
